import Derived.Test.YtapcapcbndooiaaRows
import Derived.WalkKit
import Derived.ProofKit
import Derived.OpenShut
import Derived.Deep.QuietTactic
import Derived.BigQuiet
import Derived.Outline
import Derived.WalkSmall
import Derived.WalkLawsBesides
import Derived.WalkSpells
import Derived.BigGuardPart
import Derived.RegionTactic
import Derived.Deep.RegionHeld3
import Derived.Lib.Hide
import Derived.Deep.OwnRows
import Derived.StillTailTactics
import Derived.Test.YtapcapcbndooiaaHeap
import Derived.Test.YtapcapcbndooiaaMon
import Derived.Maps.AppendAt
import Derived.Deep.AppendLies
import Derived.Below
namespace Go.Proofs.Ytapcapcbndooiaa
open Go.ChangeShapes Go.WideShapes Go.ChangeAt Go.RowKit
set_option linter.unusedVariables false
theorem own_below {B : Nat} {e : TypeId} {k : Nat} {v : Value} {n : Nat} {xs : List Value} {w w' : World} (h : w.ownsRow B e k v n xs) (hb : Below w.heap.size w w') : w'.ownsRow B e k v n xs := by
  obtain ⟨h1, h2⟩ := h
  refine ⟨h1, ?_⟩
  rcases h2 with h2 | ⟨g, cap, cur, hv, hg, hh, r⟩
  · exact Or.inl h2
  · exact Or.inr ⟨g, cap, cur, hv, hg, (hb.block g (Array.getElem?_eq_some_iff.1 hh).1).trans hh, r⟩
theorem info4 : (Try.prog.info? 4).map (fun i => (i.zero, i.size, i.bytes)) = some (some (.bool false), 1, 1) := by kernel_rfl
theorem oneB (b : Bool) : ∀ u ∈ [Value.bool b], u.oneCell' = true := by intro u hu; simp at hu; subst hu; rfl
/-- which of the fields are references -/
def refsOf (fl : List Int) : List Value := fl.map fun t => .bool (t == 2)
theorem refsOf_take (fl : List Int) (k : Nat) (t : Int) (h : fl[k]? = some t) : refsOf (fl.take (k + 1)) = refsOf (fl.take k) ++ [.bool (t == 2)] := by
  unfold refsOf
  rw [List.take_add_one, h]
  simp
def FieldsAt (w : World) (B h : Nat) (a : Option Addr) (m : Nat) (fl : List Int) : Prop := ∀ j, j < m → ∃ (f : Nat) (t : Int) (v : Bool), a = some ⟨f, 0, none⟩ ∧ f < B ∧ f ≠ h ∧ fl[j]? = some t ∧ w.cell? ⟨f, j * 2, none⟩ = some (.int .i64 t) ∧ w.cell? ⟨f, j * 2 + 1, none⟩ = some (.bool v)
def MadeAt (w : World) (h mb : Nat) (wd us : Int) (k : Nat) (fl : List Int) : Prop := h < mb ∧ mb < w.heap.size ∧
  w.cell? ⟨h, 0, none⟩ = some (.int .i64 wd) ∧ w.cell? ⟨h, 1, none⟩ = some (.int .i64 us) ∧ w.cell? ⟨h, 2, none⟩ = some (.slice none 0 0) ∧ w.frozen? ⟨h, 2, none⟩ = false ∧
  w.cell? ⟨mb, 0, none⟩ = some (.int .i64 0) ∧ w.frozen? ⟨mb, 1, none⟩ = false ∧ ∃ v, w.cell? ⟨mb, 1, none⟩ = some v ∧ w.ownsRow (mb + 1) 4 1 v k (refsOf (fl.take k))
def ObjAt (w : World) (h m ob x cp sb : Nat) (v : Value) (wd us : Int) (fl : List Int) : Prop :=
  h < sb ∧ sb < x ∧ h < ob ∧ x < w.heap.size ∧ ob < w.heap.size ∧ h < w.heap.size ∧ w.cell? ⟨h, 0, none⟩ = some (.int .i64 wd) ∧ w.cell? ⟨h, 1, none⟩ = some (.int .i64 (us + (3 + m))) ∧ w.cell? ⟨h, 2, none⟩ = some (.slice (some ⟨ob, 0, none⟩) 1 cp) ∧ w.cell? ⟨ob, 0, none⟩ = some (.iface 143 (.pointer (some ⟨x, 0, none⟩))) ∧
  w.cell? ⟨x, 0, none⟩ = some (.int .i64 0) ∧ w.cell? ⟨x, 1, none⟩ = some v ∧ w.cell? ⟨x, 2, none⟩ = some (.slice (some ⟨sb, 0, none⟩) m m) ∧ w.cell? ⟨x, 3, none⟩ = some (.int .i64 0) ∧ w.cell? ⟨x, 4, none⟩ = some (.int .i64 0) ∧ w.frozen? ⟨x, 3, none⟩ = false ∧ w.frozen? ⟨x, 4, none⟩ = false ∧
  (∀ j, j < m → w.cell? ⟨sb, j, none⟩ = some (.int .i64 0) ∧ w.frozen? ⟨sb, j, none⟩ = false ∧ ∃ rb rc, v = .slice (some ⟨rb, 0, none⟩) m rc ∧ h < rb ∧ rb < sb ∧ w.cell? ⟨rb, j, none⟩ = (refsOf (fl.take m))[j]?)
def ObjP (h m : Nat) (wd us : Int) (fl : List Int) (w : World) (e : Ending) (w' : World) : Prop := e = .returned (.tuple #[.int .i64 1, .bool true]) ∧ Below h w w' ∧ ∃ ob x cp sb v, ObjAt w' h m ob x cp sb v wd us fl
set_option maxRecDepth 100000 in
set_option maxHeartbeats 2000000 in
theorem object_c (h m c : Nat) (a : Option Addr) (fl : List Int) (wd us : Int) (w : World) (hm : m ≤ 2) (hh : h < w.heap.size) (d0 : 0 ≤ wd) (d1 : wd ≤ 65536) (u0 : 0 ≤ us) (u1 : us ≤ 65536) (hr : (m : Int) ≤ wd - us - 3) (HF : Hid (FieldsAt w w.heap.size h a m fl)) (c0 : w.cell? ⟨h, 0, none⟩ = some (.int .i64 wd)) (c1 : w.cell? ⟨h, 1, none⟩ = some (.int .i64 us)) (c2 : w.cell? ⟨h, 2, none⟩ = some (.slice none 0 0)) (z1 : w.frozen? ⟨h, 1, none⟩ = false) (z2 : w.frozen? ⟨h, 2, none⟩ = false) :
    Calls Try.prog 47 #[.pointer (some ⟨h, 0, none⟩), .int .i64 0, .slice a m c] w (ObjP h m wd us fl w) := by
  obtain ⟨i0, hi, hz0, hz1, hz2⟩ := info_parts info4
  go_enter Try.func47, Try.ntmps47
  go_wp2_with (go_at_call 103; refine (take_y h wd us m _ (by omega) (by omega) d0 d1 u0 u1 hr c0 c1 z1).mono ?_; rintro e w' ⟨rfl, q, rfl⟩)
  go_loopw [20] (fun i wr => ∃ k : Nat, k ≤ m ∧ i = .int .i64 k ∧ Hid (MadeAt wr h w.heap.size wd (us + (3 + m)) k fl) ∧ Hid (FieldsAt wr w.heap.size h a m fl) ∧ Hid (Below h w wr)) (fun i _ => m - (intOf i).toNat)
  case atStart =>
    have ne : ∀ o, o ≠ 1 → (⟨h, 1, none⟩ : Addr) ≠ ⟨h, o, none⟩ := fun o ho g => ho (by injection g with _ g2; exact g2.symm)
    have hh' : h < ((w.drewN q).setCell ⟨h, 1, none⟩ (.int .i64 (us + (3 + m)))).heap.size := by simp [World.setCell]; exact hh
    have hz : w.heap.size = ((w.drewN q).setCell ⟨h, 1, none⟩ (.int .i64 (us + (3 + m)))).heap.size := by simp [World.setCell]
    have b0 : Below h w ((w.drewN q).setCell ⟨h, 1, none⟩ (.int .i64 (us + (3 + m)))) := (below_drewN (Below.refl h w) q).setCell (by simp) _
    have e0 : ((w.drewN q).setCell ⟨h, 1, none⟩ (.int .i64 (us + (3 + m)))).cell? ⟨h, 0, none⟩ = some (.int .i64 wd) := (World.cell?_setCell_other _ _ _ _ (ne 0 (by decide))).trans c0
    have e1 : ((w.drewN q).setCell ⟨h, 1, none⟩ (.int .i64 (us + (3 + m)))).cell? ⟨h, 1, none⟩ = some (.int .i64 (us + (3 + m))) := World.cell?_setCell_same _ _ _ c1
    have e2 : ((w.drewN q).setCell ⟨h, 1, none⟩ (.int .i64 (us + (3 + m)))).cell? ⟨h, 2, none⟩ = some (.slice none 0 0) := (World.cell?_setCell_other _ _ _ _ (ne 2 (by decide))).trans c2
    have f2 : ((w.drewN q).setCell ⟨h, 1, none⟩ (.int .i64 (us + (3 + m)))).frozen? ⟨h, 2, none⟩ = false := (World.frozen?_setCell _ _ _ _).trans z2
    have hF : FieldsAt ((w.drewN q).setCell ⟨h, 1, none⟩ (.int .i64 (us + (3 + m)))) w.heap.size h a m fl := fun j hj => by
      obtain ⟨f, t, v, ha, hf, hfh, ht, k0, k1⟩ := HF.out j hj
      have nf : ∀ o, (⟨h, 1, none⟩ : Addr) ≠ ⟨f, o, none⟩ := fun o g => hfh (by injection g with g1 _; exact g1.symm)
      exact ⟨f, t, v, ha, hf, hfh, ht, (World.cell?_setCell_other _ _ _ _ (nf _)).trans k0, (World.cell?_setCell_other _ _ _ _ (nf _)).trans k1⟩
    refine ⟨0, by omega, rfl, Lib.hid ?_, Lib.hid ?_, Lib.hid (b0.alloc (by omega) _)⟩
    · rw [hz]
      refine ⟨by omega, by simp, (World.cell?_alloc_past _ _ _ hh').trans e0, (World.cell?_alloc_past _ _ _ hh').trans e1, (World.cell?_alloc_past _ _ _ hh').trans e2, (World.frozen?_alloc_past _ _ _ hh').trans f2, World.cell?_alloc_at _ _ _ _ rfl, World.frozen?_alloc_at _ _ _ _ rfl, .slice none 0 0, World.cell?_alloc_at _ _ _ _ rfl, ?_⟩
      simp [refsOf]
      exact World.ownsRow_nil _ _ _ _
    · intro j hj
      obtain ⟨f, t, v, ha, hf, hfh, ht, k0, k1⟩ := hF j hj
      exact ⟨f, t, v, ha, hf, hfh, ht, (World.cell?_alloc_past _ _ _ (by rw [← hz]; exact hf)).trans k0, (World.cell?_alloc_past _ _ _ (by rw [← hz]; exact hf)).trans k1⟩
  case round =>
    obtain ⟨k, hk, rfl, HM, HFr, HBr⟩ := hrel
    by_cases hlt : k < m
    · obtain ⟨hm1, hm2, m0, m1, m2, y2, n0, yf, v, n1, own⟩ := HM.out
      obtain ⟨f, t, fv, rfl, hf1, hf2, ht, g0, g1⟩ := HFr.out k hlt
      obtain ⟨b, hb⟩ : ∃ b : Bool, (t == 2) = b := ⟨_, rfl⟩
      have HT := Lib.hid ht
      have HO := Lib.hid own
      clear own ht
      have hm3 : k + 1 ≤ maxLen := by unfold maxLen; omega
      have hm4 : (k + 1) * 1 ≤ 140737488355328 := by omega
      go_wp2_with (at_builtin; refine wpList_append_own _ rfl _ _ 140 rfl (w.heap.size + 1) 4 i0 (.bool false) 1 1 Try.underlying140 hi hz0 hz1 hz2 rfl (by decide) _ _ _ rfl (own_below HO.out (((Below.refl _ _).alloc (Nat.le_refl _) _).alloc (by simp) _)) ⟨wr.heap.size + 1, 0, none⟩ 1 1 [.bool b] rfl rfl (by intro j u hj; match j, hj with | 0, hj => simp at hj; subst hj; simp [Addr.add]) (oneB _) hm3 hm4 (by simp; omega) ?_)
      intro v' w1 hown' hgrow hne
      have hob : ∀ b, b ≤ w.heap.size → some b ≠ v.ownBlock := fun b hb he => by have := (World.ownsRow.lt HO.out b he.symm).1; omega
      obtain ⟨g, cp, rfl, hg1, hg2⟩ := World.ownsRow.form hown' (by omega)
      have far : ∀ x o, x ≤ w.heap.size → w1.cell? ⟨x, o, none⟩ = wr.cell? ⟨x, o, none⟩ := fun x o hx => (hgrow.cell_far ⟨x, o, none⟩ (by simp; omega) (hob x hx)).trans ((World.cell?_alloc_past _ _ _ (by simp; omega)).trans (World.cell?_alloc_past _ _ _ (by omega)))
      have farf : ∀ x o, x ≤ w.heap.size → w1.frozen? ⟨x, o, none⟩ = wr.frozen? ⟨x, o, none⟩ := fun x o hx => (hgrow.frozen_far ⟨x, o, none⟩ (by simp; omega) (hob x hx)).trans ((World.frozen?_alloc_past _ _ _ (by simp; omega)).trans (World.frozen?_alloc_past _ _ _ (by omega)))
      have d1 : w1.cell? ⟨w.heap.size, 1, none⟩ = some v := (far _ _ (Nat.le_refl _)).trans n1
      have df : w1.frozen? ⟨w.heap.size, 1, none⟩ = false := (farf _ _ (Nat.le_refl _)).trans yf
      have hs1 := hgrow.size
      simp at hs1
      have HS1 : Hid (w.heap.size < w1.heap.size) := Lib.hid (by omega)
      have FAR := Lib.hid far
      have FARF := Lib.hid farf
      have HO1 := Lib.hid hown'
      have HB1 : Hid (Below h wr w1) := Lib.hid ((((Below.refl h wr).alloc (by omega) _).alloc (by simp; omega) _).trans ⟨hgrow.os, hgrow.tape, hgrow.output, hgrow.size, fun x hx => hgrow.block x (by simp; omega) (hob x (by omega))⟩)
      clear hown' hgrow hob far farf hs1 hne
      go_wp2
      have ne : ∀ x o, x < w.heap.size → (⟨w.heap.size, 1, none⟩ : Addr) ≠ ⟨x, o, none⟩ := fun x o hx g => by injection g with g1 _; omega
      have ne0 : (⟨w.heap.size, 1, none⟩ : Addr) ≠ ⟨w.heap.size, 0, none⟩ := fun g => by injection g with _ g2; omega
      go_roundw
      case rel =>
        refine ⟨k + 1, by omega, by go_num, Lib.hid ⟨hm1, by simp [World.setCell]; exact HS1.out, ?_, ?_, ?_, ?_, ?_, ?_, _, World.cell?_setCell_same _ _ _ d1, ?_⟩, Lib.hid ?_, Lib.hid ((HBr.out.trans HB1.out).setCell (by simp; omega) _)⟩
        · exact (World.cell?_setCell_other _ _ _ _ (ne _ _ hm1)).trans ((FAR.out _ _ (by omega)).trans m0)
        · exact (World.cell?_setCell_other _ _ _ _ (ne _ _ hm1)).trans ((FAR.out _ _ (by omega)).trans m1)
        · exact (World.cell?_setCell_other _ _ _ _ (ne _ _ hm1)).trans ((FAR.out _ _ (by omega)).trans m2)
        · rw [World.frozen?_setCell]; exact (FARF.out _ _ (by omega)).trans y2
        · exact (World.cell?_setCell_other _ _ _ _ ne0).trans ((FAR.out _ _ (by omega)).trans n0)
        · rw [World.frozen?_setCell]; exact df
        · rw [refsOf_take fl k t HT.out, hb]
          exact ownsRow_setCell_below HO1.out (by simp) _
        · intro j hj
          obtain ⟨f', t', v', ha, hf, hfh, ht, k0, k1⟩ := HFr.out j hj
          exact ⟨f', t', v', ha, hf, hfh, ht, (World.cell?_setCell_other _ _ _ _ (ne _ _ hf)).trans ((FAR.out _ _ (by omega)).trans k0), (World.cell?_setCell_other _ _ _ _ (ne _ _ hf)).trans ((FAR.out _ _ (by omega)).trans k1)⟩
      case measure => simp [intOf]; omega
    · obtain rfl : k = m := by omega
      obtain ⟨hm1, hm2, m0, m1, m2, y2, n0, yf, v, n1, own⟩ := HM.out
      have HO := Lib.hid own
      clear own
      have hne : w.heap.size ≠ h := by omega
      have hmk := run_make_row' (P := Try.prog) 55 2 (.int .i64 0) 8 Try.underlying55 info2 rfl .i64 .i64 k (by omega) (by omega)
      go_wp2
      have p0 : wr.drew.cell? ⟨w.heap.size, 0, none⟩ = some (.int .i64 0) := n0
      have p1 : wr.drew.cell? ⟨w.heap.size, 1, none⟩ = some v := n1
      have p2 : wr.drew.cell? ⟨h, 2, none⟩ = some (.slice none 0 0) := m2
      have pf : wr.drew.frozen? ⟨h, 2, none⟩ = false := y2
      have hs1 : w.heap.size < wr.drew.heap.size := hm2
      have hs2 : h < wr.drew.heap.size := by omega
      have a1 : ∀ (o1 : Obj), h < (wr.drew.alloc o1).heap.size := fun o1 => by simp; omega
      have a2 : ∀ (o1 : Obj), w.heap.size < (wr.drew.alloc o1).heap.size := fun o1 => by simp; omega
      have P0 : ∀ o1, (wr.drew.alloc o1).cell? ⟨w.heap.size, 0, none⟩ = some (.int .i64 0) := fun o1 => (World.cell?_alloc_past _ _ _ hs1).trans p0
      have P1 : ∀ o1, (wr.drew.alloc o1).cell? ⟨w.heap.size, 1, none⟩ = some v := fun o1 => (World.cell?_alloc_past _ _ _ hs1).trans p1
      have Q0 : ∀ o1 o2, ((wr.drew.alloc o1).alloc o2).cell? ⟨w.heap.size, 0, none⟩ = some (.int .i64 0) := fun o1 o2 => (World.cell?_alloc_past _ _ _ (a2 o1)).trans (P0 o1)
      have Q1 : ∀ o1 o2, ((wr.drew.alloc o1).alloc o2).cell? ⟨w.heap.size, 1, none⟩ = some v := fun o1 o2 => (World.cell?_alloc_past _ _ _ (a2 o1)).trans (P1 o1)
      have CA : ∀ o1 o2 x, Calls Try.prog 104 #[.pointer (some ⟨h, 0, none⟩), .iface 143 (.pointer (some ⟨x, 0, none⟩))] ((wr.drew.alloc o1).alloc o2) (AddP h 0 (.slice none 0 0) [] (.iface 143 (.pointer (some ⟨x, 0, none⟩))) ((wr.drew.alloc o1).alloc o2)) := fun o1 o2 x =>
        add_c h 143 x 0 (.slice none 0 0) [] ((wr.drew.alloc o1).alloc o2) (by omega) (by have := a1 o1; simp at this ⊢; omega) ((World.cell?_alloc_past _ _ _ (a1 o1)).trans ((World.cell?_alloc_past _ _ _ hs2).trans p2)) ((World.frozen?_alloc_past _ _ _ (a1 o1)).trans ((World.frozen?_alloc_past _ _ _ hs2).trans pf)) (World.ownsRow_nil _ _ _ _)
      have HP0 := Lib.hid P0
      have HP1 := Lib.hid P1
      have HQ0 := Lib.hid Q0
      have HQ1 := Lib.hid Q1
      have HCA := Lib.hid CA
      have HA1 := Lib.hid a1
      have HA2 := Lib.hid a2
      clear P0 P1 Q0 Q1 CA a1 a2
      go_region_held3 (fun w' => w'.cell? ⟨w.heap.size, 0, none⟩ = some (.int .i64 0) ∧ w'.cell? ⟨w.heap.size, 1, none⟩ = some v) (first | exact ⟨p0, p1⟩ | exact ⟨HP0.out _, HP1.out _⟩ | exact ⟨HQ0.out _ _, HQ1.out _ _⟩ | exact ⟨k0, k1⟩)
        (first | (go_at_call 104; refine (HCA.out _ _ _).mono ?_; rintro e w' ⟨rfl, v', d2, own', y4, hB, hfar⟩; have k0 := (hfar w.heap.size 0 (by have := hs1; simp; omega) (fun g => hne (congrArg Prod.fst g)) (by simp [Value.ownBlock])).1.trans (HQ0.out _ _); have k1 := (hfar w.heap.size 1 (by have := hs1; simp; omega) (fun g => hne (congrArg Prod.fst g)) (by simp [Value.ownBlock])).1.trans (HQ1.out _ _)))
      have HFAR := Lib.hid hfar
      have HB4 := Lib.hid hB
      have HO4 := Lib.hid own'
      have D2 := Lib.hid d2
      clear hfar hB own' d2 y4 k0 k1
      go_wp2
      have hsz := hs1
      refine bodyPost_ret (v := .tuple #[.int .i64 1, .bool true]) (by simp [results, Try.results47, go_sem]) rfl ⟨rfl, ?_, ?_⟩
      · exact ((((HBr.out.drew).alloc (by omega) _).alloc (by simp; omega) _)).trans HB4.out
      · have hsb : ∀ j, j < k → (wr.drew.alloc (.cells (madeCells #[.int .i64 0] k) 2)).cell? ⟨wr.drew.heap.size, j, none⟩ = some (.int .i64 0) := fun j hj => (World.rowIs_made wr.drew (.int .i64 0) k 2).cell hj
        obtain ⟨ob, cp, rfl, hob1, hob2⟩ := World.ownsRow.form HO4.out (by omega)
        have hoc : w'.cell? ⟨ob, 0, none⟩ = some (.iface 143 (.pointer (some ⟨wr.heap.size + 1, 0, none⟩))) := World.ownsRow.cellAt HO4.out 0 (by omega)
        have nn : ∀ b : Nat, some b ≠ (Value.slice none 0 0).ownBlock := fun b => by simp [Value.ownBlock]
        have far := HFAR.out
        have xc : ∀ i v', (#[.int .i64 0, v, .slice (some ⟨wr.heap.size, 0, none⟩) k k, .int .i64 0, .int .i64 0] : Array Value)[i]? = some v' → w'.cell? ⟨wr.heap.size + 1, i, none⟩ = some v' := fun i v' hi => (far (wr.heap.size + 1) i (by simp) (by simp; omega) (nn _)).1.trans ((World.cell?_alloc_at _ _ _ _ (by simp)).trans hi)
        have xf : ∀ i, w'.frozen? ⟨wr.heap.size + 1, i, none⟩ = false := fun i => (far (wr.heap.size + 1) i (by simp) (by simp; omega) (nn _)).2.trans (World.frozen?_alloc_at _ _ _ _ (by simp))
        have hc : ∀ o, o ≠ 2 → w'.cell? ⟨h, o, none⟩ = wr.cell? ⟨h, o, none⟩ := fun o ho => (far h o (by simp; omega) (by simp; omega) (nn _)).1.trans ((World.cell?_alloc_past _ _ _ (by simp; omega)).trans (World.cell?_alloc_past _ _ _ hs2))
        have hs4 := HB4.out.size
        simp at hs4
        refine ⟨ob, wr.heap.size + 1, cp, wr.heap.size, v, by omega, by omega, by omega, by omega, hob2, by omega, (hc 0 (by decide)).trans m0, (hc 1 (by decide)).trans m1, D2.out, hoc, xc 0 _ rfl, xc 1 _ rfl, xc 2 _ rfl, xc 3 _ rfl, xc 4 _ rfl, xf 3, xf 4, ?_⟩
        intro j hj
        refine ⟨?_, ?_, ?_⟩
        · exact (far wr.heap.size j (by simp; omega) (by simp; omega) (nn _)).1.trans ((World.cell?_alloc_past _ _ _ (by simp)).trans (hsb j hj))
        · exact (far wr.heap.size j (by simp; omega) (by simp; omega) (nn _)).2.trans ((World.frozen?_alloc_past _ _ _ (by simp)).trans (World.frozen?_alloc_at _ _ _ _ rfl))
        · obtain ⟨rb, rc, rfl, hr1, hr2⟩ := World.ownsRow.form HO.out (by omega)
          exact ⟨rb, rc, rfl, by omega, hr2, (far rb j (by simp; omega) (by simp; omega) (nn _)).1.trans ((World.cell?_alloc_past _ _ _ (by simp; omega)).trans ((World.cell?_alloc_past _ _ _ hr2).trans (World.ownsRow.cellAt HO.out j (by omega))))⟩
end Go.Proofs.Ytapcapcbndooiaa
