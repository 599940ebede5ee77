import Derived.Test.YtapcapcbndooiaaRows
import Derived.WalkKit
import Derived.ProofKit
import Derived.OpenShut
import Derived.Deep.QuietTactic
import Derived.BigQuiet
import Derived.Outline
import Derived.WalkSmall
import Derived.WalkLawsBesides
import Derived.WalkSpells
import Derived.BigGuardPart
import Derived.RegionTactic
import Derived.Deep.RegionHeld3
import Derived.Lib.Hide
import Derived.Deep.OwnRows
import Derived.Maps.AppendAt
import Derived.Deep.AppendLies
import Derived.Below
namespace Go.Proofs.Ytapcapcbndooiaa
open Go.ChangeShapes Go.WideShapes Go.ChangeAt Go.RowKit
set_option linter.unusedVariables false
set_option maxRecDepth 100000 in
theorem new_c (n : Int) (w : World) (h0 : 0 ≤ n) (h1 : n ≤ 65536) : Calls Try.prog 43 #[.int .i64 n] w fun e w' => e = .returned (.tuple #[.pointer (some ⟨w.heap.size, 0, none⟩), .int .i64 0]) ∧ w.alloc (.cells #[.int .i64 n, .int .i64 0, .slice none 0 0] 131) = w' := by
  go_enter Try.func43, Try.ntmps43
  go_wp2
  refine bodyPost_ret (v := .tuple #[.pointer (some ⟨w.heap.size, 0, none⟩), .int .i64 0]) (by simp [results, Try.results43, go_sem]) rfl ⟨rfl, rfl⟩
set_option maxRecDepth 100000 in
theorem take_y (h : Nat) (wd us n : Int) (w : World) (n0 : 0 ≤ n) (n1 : n ≤ 65536) (d0 : 0 ≤ wd) (d1 : wd ≤ 65536) (u0 : 0 ≤ us) (u1 : us ≤ 65536) (hn : n ≤ wd - us - 3) (c0 : w.cell? ⟨h, 0, none⟩ = some (.int .i64 wd)) (c1 : w.cell? ⟨h, 1, none⟩ = some (.int .i64 us)) (z1 : w.frozen? ⟨h, 1, none⟩ = false) :
    Calls Try.prog 103 #[.pointer (some ⟨h, 0, none⟩), .int .i64 n] w fun e w' => e = .returned (.bool true) ∧ ∃ k, w' = (w.drewN k).setCell ⟨h, 1, none⟩ (.int .i64 (us + (3 + n))) := by
  have hd : decide (wd - us - 3 < n) = false := decide_eq_false (by omega)
  go_enter Try.func103, Try.ntmps103
  go_wp2
  go_quiet (fail)
  go_wp2
  refine bodyPost_ret (v := .bool true) (by simp [results, Try.results103, go_sem]) rfl ⟨rfl, _, rfl⟩
set_option maxRecDepth 100000 in
theorem take_n (h : Nat) (wd us n : Int) (w : World) (n0 : -9223372036854775808 ≤ n) (n1 : n ≤ 9223372036854775807) (d0 : 0 ≤ wd) (d1 : wd ≤ 65536) (u0 : 0 ≤ us) (u1 : us ≤ 65536) (hn : wd - us - 3 < n) (c0 : w.cell? ⟨h, 0, none⟩ = some (.int .i64 wd)) (c1 : w.cell? ⟨h, 1, none⟩ = some (.int .i64 us)) :
    Calls Try.prog 103 #[.pointer (some ⟨h, 0, none⟩), .int .i64 n] w fun e w' => e = .returned (.bool false) ∧ ∃ k, w' = w.drewN k := by
  go_enter Try.func103, Try.ntmps103
  go_wp2
  go_quiet (fail)
  go_wp2
  refine bodyPost_ret (v := .bool false) (by simp [results, Try.results103, go_sem]) rfl ⟨rfl, _, rfl⟩
theorem info147 : (Try.prog.info? 147).map (fun i => (i.zero, i.size, i.bytes)) = some (some .nilIface, 1, 16) := by kernel_rfl
theorem info2 : (Try.prog.info? 2).map (fun i => (i.zero, i.size, i.bytes)) = some (some (.int .i64 0), 1, 8) := by kernel_rfl
def HeapAt (w : World) (h : Nat) (wd us : Int) (n : Nat) : Prop := h < w.heap.size ∧ w.cell? ⟨h, 0, none⟩ = some (.int .i64 wd) ∧ w.cell? ⟨h, 1, none⟩ = some (.int .i64 us) ∧ w.frozen? ⟨h, 1, none⟩ = false ∧ w.frozen? ⟨h, 2, none⟩ = false ∧ ∃ v xs, w.cell? ⟨h, 2, none⟩ = some v ∧ w.ownsRow (h + 1) 147 1 v n xs
theorem oneI (t x : Nat) : ∀ u ∈ [Value.iface t (.pointer (some ⟨x, 0, none⟩))], u.oneCell' = true := by intro u hu; simp at hu; subst hu; rfl
theorem cell_new1 (w : World) (v : Value) (t : TypeId) : ∀ j u, [v][j]? = some u → (w.alloc (.cells #[v] t)).cell? ((⟨w.heap.size, 0, none⟩ : Addr).add j) = some u := by
  intro j u hj
  match j, hj with
  | 0, hj => simp at hj; subst hj; simp [Addr.add]
def AddP (h n : Nat) (v : Value) (xs : List Value) (i : Value) (w : World) (e : Ending) (w' : World) : Prop := e = .returned (.int .i64 (n + 1)) ∧ ∃ v', w'.cell? ⟨h, 2, none⟩ = some v' ∧ w'.ownsRow (h + 1) 147 1 v' (n + 1) (xs ++ [i]) ∧ w'.frozen? ⟨h, 2, none⟩ = false ∧ Below h w w' ∧
  (∀ b o, b < w.heap.size → (b, o) ≠ (h, 2) → some b ≠ v.ownBlock → w'.cell? ⟨b, o, none⟩ = w.cell? ⟨b, o, none⟩ ∧ w'.frozen? ⟨b, o, none⟩ = w.frozen? ⟨b, o, none⟩)
set_option maxRecDepth 100000 in
theorem add_c (h t x n : Nat) (v : Value) (xs : List Value) (w : World) (hn : n ≤ 1000) (hh : h < w.heap.size) (c2 : w.cell? ⟨h, 2, none⟩ = some v) (z2 : w.frozen? ⟨h, 2, none⟩ = false) (own : w.ownsRow (h + 1) 147 1 v n xs) :
    Calls Try.prog 104 #[.pointer (some ⟨h, 0, none⟩), .iface t (.pointer (some ⟨x, 0, none⟩))] w (AddP h n v xs (.iface t (.pointer (some ⟨x, 0, none⟩))) w) := by
  obtain ⟨i0, hi, hz0, hz1, hz2⟩ := info_parts info147
  have hm3 : n + 1 ≤ maxLen := by unfold maxLen; omega
  have hm4 : (n + 1) * 16 ≤ 140737488355328 := by omega
  have hm5 : h + 1 ≤ (w.alloc (.cells #[.iface t (.pointer (some ⟨x, 0, none⟩))] 147)).heap.size := by simp; omega
  go_enter Try.func104, Try.ntmps104
  go_wp2_with (at_builtin; refine wpList_append_own _ rfl _ _ 129 rfl (h + 1) 147 i0 .nilIface 1 16 Try.underlying129 hi hz0 hz1 hz2 rfl (by decide) _ _ _ rfl (own.alloc _) ⟨w.heap.size, 0, none⟩ 1 1 [.iface t (.pointer (some ⟨x, 0, none⟩))] rfl rfl (cell_new1 _ _ _) (oneI _ _) hm3 hm4 hm5 ?_)
  intro v' w1 hown' hgrow hne
  have hob : ∀ b, b ≤ h → some b ≠ v.ownBlock := fun b hb he => by have := (own.lt b he.symm).1; omega
  have d2 : w1.cell? ⟨h, 2, none⟩ = some v := (hgrow.cell_far ⟨h, 2, none⟩ (by simp; omega) (hob h (Nat.le_refl _))).trans ((World.cell?_alloc_past _ _ _ hh).trans c2)
  have y2 : w1.frozen? ⟨h, 2, none⟩ = false := (hgrow.frozen_far ⟨h, 2, none⟩ (by simp; omega) (hob h (Nat.le_refl _))).trans ((World.frozen?_alloc_past _ _ _ hh).trans z2)
  have HG := Lib.hid hgrow
  have HO := Lib.hid hown'
  have HB := Lib.hid hob
  obtain ⟨g, cp, rfl, _, _⟩ := World.ownsRow.form hown' (by omega)
  clear hgrow hown' hob hne
  go_wp2
  refine bodyPost_ret (v := .int .i64 (n + 1)) (by simp [results, Try.results104, go_sem]) rfl ⟨rfl, _, World.cell?_setCell_same _ _ _ d2, ownsRow_setCell_below HO.out (by simp) _, (World.frozen?_setCell _ _ _ _).trans y2, ?_, ?_⟩
  · have b1 : Below h (w.alloc (.cells #[.iface t (.pointer (some ⟨x, 0, none⟩))] 147)) w1 := ⟨HG.out.os, HG.out.tape, HG.out.output, HG.out.size, fun k hk => HG.out.block k (by simp; omega) (HB.out k (by omega))⟩
    exact (((Below.refl h w).alloc (by omega) _).trans b1).setCell (by simp) _
  · intro b o hb hne hr
    have e : (⟨h, 2, none⟩ : Addr) ≠ ⟨b, o, none⟩ := fun g => hne (by injection g with g1 g2; rw [← g1, ← g2])
    refine ⟨(World.cell?_setCell_other _ _ _ _ e).trans ((HG.out.cell_far ⟨b, o, none⟩ (by simp; omega) hr).trans (World.cell?_alloc_past _ _ _ hb)), ?_⟩
    rw [World.frozen?_setCell]
    exact (HG.out.frozen_far ⟨b, o, none⟩ (by simp; omega) hr).trans (World.frozen?_alloc_past _ _ _ hb)
def ArrP (h k n : Nat) (wd us : Int) (w : World) (e : Ending) (w' : World) : Prop := e = .returned (.tuple #[.int .i64 (k + 1), .bool true]) ∧ HeapAt w' h wd (us + (3 + n)) (k + 1) ∧ Below h w w'
set_option maxRecDepth 100000 in
theorem array_y (h t n k : Nat) (wd us : Int) (w : World) (ht : t = 2) (hk : k ≤ 1000) (d0 : 0 ≤ wd) (d1 : wd ≤ 65536) (u0 : 0 ≤ us) (u1 : us ≤ 65536) (hn : (n : Int) ≤ wd - us - 3) (HA : Hid (HeapAt w h wd us k)) :
    Calls Try.prog 44 #[.pointer (some ⟨h, 0, none⟩), .int .i64 t, .int .i64 n] w (ArrP h k n wd us w) := by
  subst ht
  obtain ⟨hh, c0, c1, z1, z2, v, xs, c2, own⟩ := HA.out
  have HO := Lib.hid own
  clear own
  have n0 : (n : Int) ≤ 65536 := by omega
  have hmk := run_make_row' (P := Try.prog) 55 2 (.int .i64 0) 8 Try.underlying55 info2 rfl .i64 .i64 n (by omega) (by omega)
  go_enter Try.func44, Try.ntmps44
  go_wp2_with (go_at_call 103; refine (take_y h wd us n _ (by omega) n0 d0 d1 u0 u1 hn c0 c1 z1).mono ?_; rintro e w' ⟨rfl, q, rfl⟩)
  have ne : ∀ o, o ≠ 1 → (⟨h, 1, none⟩ : Addr) ≠ ⟨h, o, none⟩ := fun o ho g => ho (by injection g with _ g2; exact g2.symm)
  have b0 : Below h w ((w.drewN q).setCell ⟨h, 1, none⟩ (.int .i64 (us + (3 + n)))) := (below_drewN (Below.refl h w) q).setCell (by simp) _
  have e0 : ((w.drewN q).setCell ⟨h, 1, none⟩ (.int .i64 (us + (3 + n)))).cell? ⟨h, 0, none⟩ = some (.int .i64 wd) := (World.cell?_setCell_other _ _ _ _ (ne 0 (by decide))).trans c0
  have e1 : ((w.drewN q).setCell ⟨h, 1, none⟩ (.int .i64 (us + (3 + n)))).cell? ⟨h, 1, none⟩ = some (.int .i64 (us + (3 + n))) := World.cell?_setCell_same _ _ _ c1
  have e2 : ((w.drewN q).setCell ⟨h, 1, none⟩ (.int .i64 (us + (3 + n)))).cell? ⟨h, 2, none⟩ = some v := (World.cell?_setCell_other _ _ _ _ (ne 2 (by decide))).trans c2
  have f1 : ((w.drewN q).setCell ⟨h, 1, none⟩ (.int .i64 (us + (3 + n)))).frozen? ⟨h, 1, none⟩ = false := (World.frozen?_setCell _ _ _ _).trans z1
  have f2 : ((w.drewN q).setCell ⟨h, 1, none⟩ (.int .i64 (us + (3 + n)))).frozen? ⟨h, 2, none⟩ = false := (World.frozen?_setCell _ _ _ _).trans z2
  have o2 : ((w.drewN q).setCell ⟨h, 1, none⟩ (.int .i64 (us + (3 + n)))).ownsRow (h + 1) 147 1 v k xs := ownsRow_setCell_below (show (w.drewN q).ownsRow (h + 1) 147 1 v k xs from HO.out) (by simp) _
  have hsz : w.heap.size = ((w.drewN q).setCell ⟨h, 1, none⟩ (.int .i64 (us + (3 + n)))).heap.size := by simp [World.setCell]
  rw [hsz]
  have HH : Hid (h < ((w.drewN q).setCell ⟨h, 1, none⟩ (.int .i64 (us + (3 + n)))).heap.size) := Lib.hid (by omega)
  have H0 := Lib.hid b0
  have HO2 := Lib.hid o2
  clear hsz b0 o2 HO HA c0 c1 c2 z1 z2 hh
  generalize (w.drewN q).setCell ⟨h, 1, none⟩ (.int .i64 (us + (3 + n))) = w1 at *
  have g2 : ((w1.alloc (.cells (madeCells #[.int .i64 0] n) 2)).alloc (.cells #[.bool true, .slice (some ⟨w1.heap.size, 0, none⟩) n n, .int .i64 0, .int .i64 0] 139)).cell? ⟨h, 2, none⟩ = some v := ((World.cell?_alloc_past _ _ _ (by simp; exact Nat.lt_succ_of_lt HH.out)).trans (World.cell?_alloc_past _ _ _ HH.out)).trans e2
  have y2 : ((w1.alloc (.cells (madeCells #[.int .i64 0] n) 2)).alloc (.cells #[.bool true, .slice (some ⟨w1.heap.size, 0, none⟩) n n, .int .i64 0, .int .i64 0] 139)).frozen? ⟨h, 2, none⟩ = false := ((World.frozen?_alloc_past _ _ _ (by simp; exact Nat.lt_succ_of_lt HH.out)).trans (World.frozen?_alloc_past _ _ _ HH.out)).trans f2
  refine (add_c h 134 (w1.heap.size + 1) k v xs _ hk (by simp; exact Nat.lt_succ_of_lt (Nat.lt_succ_of_lt HH.out)) g2 y2 ((HO2.out.alloc _).alloc _)).mono ?_
  rintro e w4 ⟨rfl, v', d2, own', y4, hB, hfar⟩
  have HF := Lib.hid hfar
  have HB := Lib.hid hB
  have HO4 := Lib.hid own'
  clear hfar hB own'
  go_wp2
  have hno : some h ≠ v.ownBlock := fun he => by have := (World.ownsRow.lt HO2.out h he.symm).1; omega
  have hq : h < ((w1.alloc (.cells (madeCells #[.int .i64 0] n) 2)).alloc (.cells #[.bool true, .slice (some ⟨w1.heap.size, 0, none⟩) n n, .int .i64 0, .int .i64 0] 139)).heap.size := by simp; exact Nat.lt_succ_of_lt (Nat.lt_succ_of_lt HH.out)
  have q0 := HF.out h 0 hq (by simp) hno
  have q1 := HF.out h 1 hq (by simp) hno
  have pc : ∀ o, ((w1.alloc (.cells (madeCells #[.int .i64 0] n) 2)).alloc (.cells #[.bool true, .slice (some ⟨w1.heap.size, 0, none⟩) n n, .int .i64 0, .int .i64 0] 139)).cell? ⟨h, o, none⟩ = w1.cell? ⟨h, o, none⟩ := fun o => (World.cell?_alloc_past _ _ _ (by simp; exact Nat.lt_succ_of_lt HH.out)).trans (World.cell?_alloc_past _ _ _ HH.out)
  have pf : ∀ o, ((w1.alloc (.cells (madeCells #[.int .i64 0] n) 2)).alloc (.cells #[.bool true, .slice (some ⟨w1.heap.size, 0, none⟩) n n, .int .i64 0, .int .i64 0] 139)).frozen? ⟨h, o, none⟩ = w1.frozen? ⟨h, o, none⟩ := fun o => (World.frozen?_alloc_past _ _ _ (by simp; exact Nat.lt_succ_of_lt HH.out)).trans (World.frozen?_alloc_past _ _ _ HH.out)
  have hs4 := HB.out.size
  refine bodyPost_ret (v := .tuple #[.int .i64 (k + 1), .bool true]) (by simp [results, Try.results44, go_sem]) rfl ⟨rfl, ⟨by omega, q0.1.trans ((pc 0).trans e0), q1.1.trans ((pc 1).trans e1), q1.2.trans ((pf 1).trans f1), y4, v', _, d2, HO4.out⟩, ?_⟩
  have hh := HH.out
  exact ((H0.out.alloc (by omega) _).alloc (by simp; omega) _).trans HB.out
def ArrN (h k : Nat) (wd us : Int) (w : World) (e : Ending) (w' : World) : Prop := e = .returned (.tuple #[.int .i64 0, .bool false]) ∧ ∃ q, w' = w.drewN q
set_option maxRecDepth 100000 in
theorem array_n (h k : Nat) (t n wd us : Int) (w : World) (hk : k ≤ 1000) (d0 : 0 ≤ wd) (d1 : wd ≤ 65536) (u0 : 0 ≤ us) (u1 : us ≤ 65536) (g0 : -9223372036854775808 ≤ n) (g1 : n ≤ 9223372036854775807) (hn : n < 0 ∨ wd - us - 3 < n) (HA : Hid (HeapAt w h wd us k)) :
    Calls Try.prog 44 #[.pointer (some ⟨h, 0, none⟩), .int .i64 t, .int .i64 n] w (ArrN h k wd us w) := by
  obtain ⟨hh, c0, c1, z1, z2, v, xs, c2, own⟩ := HA.out
  have HO := Lib.hid own
  clear own
  by_cases hneg : n < 0
  · clear hn
    go_enter Try.func44, Try.ntmps44
    go_wp2
    refine bodyPost_ret (v := .tuple #[.int .i64 0, .bool false]) (by simp [results, Try.results44, go_sem]) rfl ⟨rfl, 0, rfl⟩
  · have hb : wd - us - 3 < n := by omega
    have hd : decide (n < 0) = false := decide_eq_false hneg
    clear hn
    go_enter Try.func44, Try.ntmps44
    go_wp2_with (go_at_call 103; refine (take_n h wd us n _ g0 g1 d0 d1 u0 u1 hb c0 c1).mono ?_; rintro e w' ⟨rfl, q, rfl⟩)
    refine bodyPost_ret (v := .tuple #[.int .i64 0, .bool false]) (by simp [results, Try.results44, go_sem]) rfl ⟨rfl, q, rfl⟩
theorem HeapAt.drewN {w : World} {h n : Nat} {wd us : Int} (g : HeapAt w h wd us n) (q : Nat) : HeapAt (w.drewN q) h wd us n := g
set_option maxRecDepth 100000 in
theorem used_c (h k : Nat) (wd us : Int) (w : World) (c1 : w.cell? ⟨h, 1, none⟩ = some (.int .i64 us)) :
    Calls Try.prog 45 #[.pointer (some ⟨h, 0, none⟩)] w fun e w' => e = .returned (.int .i64 us) ∧ w = w' := by
  go_enter Try.func45, Try.ntmps45
  go_wp2
  go_ret
  exact ⟨rfl, rfl⟩
set_option maxRecDepth 100000 in
theorem objects_c (h k : Nat) (wd us : Int) (w : World) (HA : Hid (HeapAt w h wd us k)) (hk : k ≤ 1000) :
    Calls Try.prog 46 #[.pointer (some ⟨h, 0, none⟩)] w fun e w' => e = .returned (.int .i64 k) ∧ w = w' := by
  obtain ⟨hh, c0, c1, z1, z2, v, xs, c2, own⟩ := HA.out
  have HO := Lib.hid own
  obtain ⟨a, c, rfl⟩ : ∃ a c, v = .slice a k c := by
    rcases own.2 with ⟨rfl, rfl⟩ | ⟨g, cp, cur, rfl, _⟩
    · exact ⟨_, _, rfl⟩
    · exact ⟨_, _, rfl⟩
  clear own
  go_enter Try.func46, Try.ntmps46
  go_wp2
  go_ret
  exact ⟨rfl, rfl⟩
end Go.Proofs.Ytapcapcbndooiaa
