import Derived.Test.YtapcapcbndooiaaRows
import Derived.WalkKit
import Derived.ProofKit
import Derived.OpenShut
import Derived.Deep.QuietTactic
import Derived.BigQuiet
import Derived.Outline
import Derived.WalkSmall
import Derived.WalkLawsBesides
import Derived.WalkSpells
import Derived.BigGuardPart
import Derived.RegionTactic
import Derived.Deep.RegionHeld3
import Derived.Lib.Hide
import Derived.Deep.OwnRows
import Derived.Maps.AppendAt
import Derived.Deep.AppendLies
import Derived.Below
import Derived.Deep.RegionLaw
import Derived.Test.YtapcapcbndooiaaNewA
namespace Go.Proofs.Ytapcapcbndooiaa
open Go.ChangeShapes Go.WideShapes Go.ChangeAt Go.RowKit
set_option linter.unusedVariables false
theorem grown_below {w w' : World} {row : Option Nat} {N : Nat} (h : w.grownBy w' row) (hN : N ≤ w.heap.size) (hr : ∀ b, row = some b → N ≤ b) : Below N w w' :=
  ⟨h.os, h.tape, h.output, h.size, fun x hx => h.block x (by omega) (fun e => by have := hr x e.symm; omega)⟩
theorem made_below {wr wa w5 : World} {mb k : Nat} {v x : Value} {A S : Nat → Nat} {W X : Nat → Bool} {B : Nat → Nat} {o1 o2 : Obj} (hM : Made wr mb v k A S W X B) (hba : Below wr.heap.size wr wa) (hgrow : ((wa.alloc o1).alloc o2).drew.grownBy w5 v.ownBlock) : Below mb wr (w5.setCell ⟨mb, 0, none⟩ x) := by
  obtain ⟨m1, m2, m3, m4, m5, m6⟩ := hM
  have hs := hba.size
  have h1 : Below mb wr ((wa.alloc o1).alloc o2).drew := (((hba.mono (by omega)).alloc (by omega) _).alloc (by simp; omega) _).drew
  have h2 : Below mb ((wa.alloc o1).alloc o2).drew w5 := grown_below hgrow (by show mb ≤ ((wa.alloc o1).alloc o2).heap.size; simp; omega) (fun b hb => by have := (World.ownsRow.lt m4 b hb).1; omega)
  exact (h1.trans h2).setCell (by simp) _
theorem made_step {wr wa w5 : World} {mb k gg cap2 : Nat} {v : Value} {A S : Nat → Nat} {W X : Nat → Bool} {B : Nat → Nat} {o2 : Obj} (hM : Made wr mb v k A S W X B) (hba : Below wr.heap.size wr wa) (hz : wa.heap.size = wr.heap.size + 1)
    (hgrow : ((wa.alloc (.cells (madeCells #[.int .u8 0] (S k)) 5)).alloc o2).drew.grownBy w5 v.ownBlock)
    (hown : w5.ownsRow (mb + 1) 113 5 (.slice (some ⟨gg, 0, none⟩) (k + 1) cap2) (k + 1) (areaCells A S W X B k ++ [.int .u64 (A k : Nat), .int .u64 (S k : Nat), .bool (W k), .bool (X k), .slice (some ⟨wa.heap.size, 0, none⟩) (S k) (S k)]))
    (hat : v.ownBlock = some gg ∨ gg = wa.heap.size + 2) (hlt : gg < w5.heap.size) :
    Made (w5.setCell ⟨mb, 0, none⟩ (.slice (some ⟨gg, 0, none⟩) (k + 1) cap2)) mb (.slice (some ⟨gg, 0, none⟩) (k + 1) cap2) (k + 1) A S W X (fun i => if i = k then wa.heap.size else B i) := by
  obtain ⟨m1, m2, m3, m4, m5, m6⟩ := hM
  have hs5 := hgrow.size
  have hs6 : ((wa.alloc (.cells (madeCells #[.int .u8 0] (S k)) 5)).alloc o2).drew.heap.size = wa.heap.size + 2 := by show ((wa.alloc (.cells (madeCells #[.int .u8 0] (S k)) 5)).alloc o2).heap.size = _; simp
  have hob : ∀ b, v.ownBlock = some b → mb + 1 ≤ b ∧ b < wr.heap.size := fun b hb => World.ownsRow.lt m4 b hb
  have far : ∀ b p, b < wr.heap.size → some b ≠ v.ownBlock → w5.cell? ⟨b, p, none⟩ = wr.cell? ⟨b, p, none⟩ := fun b p hb hne => (hgrow.cell_far ⟨b, p, none⟩ (by rw [hs6]; show b < _; omega) hne).trans ((World.cell?_alloc_past _ _ _ (by simp; omega)).trans ((World.cell?_alloc_past _ _ _ (by omega)).trans (hba.cell (p := ⟨b, p, none⟩) hb)))
  have farf : ∀ b p, b < wr.heap.size → some b ≠ v.ownBlock → w5.frozen? ⟨b, p, none⟩ = wr.frozen? ⟨b, p, none⟩ := fun b p hb hne => (hgrow.frozen_far ⟨b, p, none⟩ (by rw [hs6]; show b < _; omega) hne).trans ((World.frozen?_alloc_past _ _ _ (by simp; omega)).trans ((World.frozen?_alloc_past _ _ _ (by omega)).trans (hba.frozen (p := ⟨b, p, none⟩) hb)))
  have hnm : some mb ≠ v.ownBlock := fun e => by have := (hob mb e.symm).1; omega
  have hnw : some wa.heap.size ≠ v.ownBlock := fun e => by have := (hob _ e.symm).2; omega
  have hgg : gg ≠ wa.heap.size := by
    rcases hat with h | h
    · have := (hob gg h).2; omega
    · omega
  have newc : ∀ p, p < S k → w5.cell? ⟨wa.heap.size, p, none⟩ = some (.int .u8 0) := fun p hp => (hgrow.cell_far ⟨wa.heap.size, p, none⟩ (by rw [hs6]; show wa.heap.size < _; omega) hnw).trans ((World.cell?_alloc_past _ _ _ (by simp)).trans ((World.rowIs_made wa (.int .u8 0) (S k) 5).cell hp))
  have newf : ∀ p, w5.frozen? ⟨wa.heap.size, p, none⟩ = false := fun p => (hgrow.frozen_far ⟨wa.heap.size, p, none⟩ (by rw [hs6]; show wa.heap.size < _; omega) hnw).trans ((World.frozen?_alloc_past _ _ _ (by simp)).trans (World.frozen?_alloc_at _ _ _ _ rfl))
  have ne : ∀ b p, b ≠ mb → (⟨mb, 0, none⟩ : Addr) ≠ ⟨b, p, none⟩ := fun b p hb g => hb (by injection g with g1 _; exact g1.symm)
  have hsz : (w5.setCell ⟨mb, 0, none⟩ (.slice (some ⟨gg, 0, none⟩) (k + 1) cap2)).heap.size = w5.heap.size := by simp [World.setCell]
  refine ⟨World.cell?_setCell_same _ _ _ ((far mb 0 m3 hnm).trans m1), (World.frozen?_setCell _ _ _ _).trans ((farf mb 0 m3 hnm).trans m2), by omega, ?_, ?_, ?_⟩
  · rw [areaCells_snoc]
    exact ownsRow_setCell_below hown (by simp) _
  · intro i hi
    dsimp only
    by_cases hik : i = k
    · subst hik
      rw [if_pos rfl]
      refine ⟨by omega, by omega, by simp [Value.ownBlock]; exact hgg, fun p hp => ⟨(World.cell?_setCell_other _ _ _ _ (ne _ _ (by omega))).trans (newc p hp), (World.frozen?_setCell _ _ _ _).trans (newf p)⟩⟩
    · rw [if_neg hik]
      obtain ⟨b1, b2, b3, b4⟩ := m5 i (by omega)
      refine ⟨b1, by omega, ?_, fun p hp => ⟨(World.cell?_setCell_other _ _ _ _ (ne _ _ (by omega))).trans ((far _ p b2 (Ne.symm b3)).trans (b4 p hp).1), (World.frozen?_setCell _ _ _ _).trans ((farf _ p b2 (Ne.symm b3)).trans (b4 p hp).2)⟩⟩
      simp [Value.ownBlock]
      intro e
      rcases hat with h | h
      · exact b3 (by rw [h, e])
      · omega
  · intro i l hi hl hne
    dsimp only
    by_cases hik : i = k
    · subst hik
      rw [if_pos rfl, if_neg (Ne.symm hne)]
      have := (m5 l (by omega)).2.1
      omega
    · rw [if_neg hik]
      by_cases hlk : l = k
      · rw [if_pos hlk]
        have := (m5 i (by omega)).2.1
        omega
      · rw [if_neg hlk]
        exact m6 i l (by omega) (by omega) hne
def endOf (A S : Nat → Nat) : Nat → Nat
  | 0 => 0
  | j + 1 => A j + S j
def NewPost (n : Nat) (A S : Nat → Nat) (W X : Nat → Bool) (w : World) (e : Ending) (w' : World) : Prop := ∃ mb v B, e = .returned (.tuple #[.pointer (some ⟨mb, 0, none⟩), .int .i64 0]) ∧ w.heap.size ≤ mb ∧ Made w' mb v n A S W X B ∧ Below w.heap.size w w'
set_option maxRecDepth 100000 in
set_option maxHeartbeats 2000000 in
theorem new_y (rb n cap : Nat) (A S : Nat → Nat) (W X : Nat → Bool) (w : World) (n1 : 1 ≤ n) (n2 : n ≤ 16) (hr : rb < w.heap.size) (hsort : ∀ j, j + 1 < n → A j + S j ≤ A (j + 1)) (hright : right A S n) (HR : Hid (RegsAt w rb n A S W X)) :
    Calls Try.prog 37 #[.slice (some ⟨rb, 0, none⟩) n cap] w (NewPost n A S W X w) := by
  have HS := Lib.hid hsort
  have HG := Lib.hid hright
  have d1 : decide ((16 : Int) < (n : Int)) = false := decide_eq_false (by omega)
  clear hsort hright
  obtain ⟨i0, hi, hz0, hz1, hz2⟩ := info_parts info113
  go_enter Try.func37, Try.ntmps37
  go_wp2_with (first | (go_at_call 95; refine (clone_c rb n cap A S W X _ n1 n2 hr HR).mono ?_; rintro e w1 ⟨g, cp, rfl, hg1, hg2, hcp, hRg, hFg, hBg⟩; have HRg := Lib.hid hRg; have HFg := Lib.hid hFg; have HBg := Lib.hid hBg; clear hRg hFg hBg) | (go_at_call 96; refine (sort_s g n cp A S W X _ n1 n2 hg2 (fun j hj => by have := HS.out j hj; omega) HRg).mono ?_; rintro e w2 ⟨rfl, hB2⟩; have HR2 := Lib.hid (HRg.out.below hB2 hg2); have HB2 := Lib.hid (HBg.out.trans (hB2.mono HBg.out.size)); have hg3 : g < w2.heap.size := Nat.lt_of_lt_of_le hg2 hB2.size; clear hB2))
  obtain ⟨mb, hmb⟩ : ∃ mb, mb = w2.heap.size := ⟨_, rfl⟩
  rw [← hmb]
  have hm1 : w.heap.size ≤ mb := by rw [hmb]; exact HB2.out.size
  have hgm : g < mb := by rw [hmb]; exact hg3
  have hM0 : Made (w2.alloc (.cells #[.slice none 0 0] 109)) mb (.slice none 0 0) 0 A S W X (fun _ => 0) := by
    subst hmb
    exact ⟨World.cell?_alloc_at _ _ _ _ rfl, World.frozen?_alloc_at _ _ _ _ rfl, by simp, World.ownsRow_nil _ _ _ _, fun i hi => by omega, fun i k hi => by omega⟩
  have HM0 := Lib.hid hM0
  have HRm : Hid (RegsAt (w2.alloc (.cells #[.slice none 0 0] 109)) g n A S W X) := Lib.hid (HR2.out.below ((Below.refl _ _).alloc (Nat.le_refl _) _) hg3)
  have HBm : Hid (Below w.heap.size w (w2.alloc (.cells #[.slice none 0 0] 109))) := Lib.hid (HB2.out.alloc HB2.out.size _)
  have hmz : mb < (w2.alloc (.cells #[.slice none 0 0] 109)).heap.size := by rw [hmb]; simp
  clear hM0 hmb
  generalize w2.alloc (.cells #[.slice none 0 0] 109) = wm at *
  go_loopw [6, 8, 22] (fun e _ i wr => ∃ j : Nat, j ≤ n ∧ i = .int .i64 j ∧ e = .int .u64 (endOf A S j : Nat) ∧ Hid (Below wm.heap.size wm wr)) (fun _ _ i _ => n + 1 - (intOf i).toNat)
  case atStart => exact ⟨0, by omega, rfl, rfl, Lib.hid (Below.refl _ _)⟩
  case round =>
    obtain ⟨j, hj, rfl, rfl, HBr⟩ := hrel
    by_cases hlt : j < n
    · obtain ⟨f1, f2, f3, f4⟩ := (HRm.out.below HBr.out (by omega)).four j hlt
      obtain ⟨r1, r2, r3, r4, r5⟩ := HG.out j hlt
      have hle : endOf A S j ≤ A j := by
        cases j with
        | zero => exact Nat.zero_le _
        | succ i => exact HS.out i hlt
      have d2 : decide (A j < endOf A S j) = false := decide_eq_false (by omega)
      have hgr : g < wr.heap.size := by have := HBr.out.size; omega
      have gj : (j : Int) < n := by omega
      go_wp2_with (go_at_call 98; refine (isRight_y (A j) (S j) (W j) (X j) _ r1 r2 r3 r4 r5).mono ?_; rintro e w3 ⟨rfl, hb3⟩; obtain ⟨q0, q1⟩ : w3.cell? ⟨wr.heap.size, 0, none⟩ = some (.int .u64 (A j : Nat)) ∧ w3.cell? ⟨wr.heap.size, 1, none⟩ = some (.int .u64 (S j : Nat)) := ⟨(hb3.cell (p := ⟨wr.heap.size, 0, none⟩) (by simp)).trans (World.cell?_alloc_at _ _ _ _ rfl), (hb3.cell (p := ⟨wr.heap.size, 1, none⟩) (by simp)).trans (World.cell?_alloc_at _ _ _ _ rfl)⟩; have HB3 := Lib.hid (HBr.out.trans (((Below.refl _ _).alloc (Nat.le_refl _) _).trans (hb3.mono (by simp)) |>.mono HBr.out.size)); clear hb3)
      exact ⟨⟨j + 1, by omega, by simp, by simp [endOf], HB3⟩, by simp [intOf]; omega⟩
    · obtain rfl : j = n := by omega
      have HMn : Hid (Made wr mb (.slice none 0 0) 0 A S W X (fun _ => 0)) := Lib.hid (by
        obtain ⟨m1, m2, m3, m4, m5, m6⟩ := HM0.out
        exact ⟨(HBr.out.cell (p := ⟨mb, 0, none⟩) hmz).trans m1, (HBr.out.frozen (p := ⟨mb, 0, none⟩) hmz).trans m2, Nat.lt_of_lt_of_le hmz HBr.out.size, World.ownsRow_nil _ _ _ _, fun i hi => by omega, fun i k hi => by omega⟩)
      have HRn : Hid (RegsAt wr g j A S W X) := Lib.hid (HRm.out.below HBr.out (by omega))
      have HBn : Hid (Below w.heap.size w wr) := Lib.hid (HBm.out.trans (HBr.out.mono HBm.out.size))
      clear HM0 HRm HBm HBr
      obtain ⟨wn, rfl⟩ : ∃ wn : World, wn = wr := ⟨_, rfl⟩
      go_wp2
      go_loopw [10, 43] (fun _ i wr => ∃ (k : Nat) (v : Value) (B : Nat → Nat), k ≤ j ∧ i = .int .i64 k ∧ Hid (Made wr mb v k A S W X B) ∧ Hid (RegsAt wr g j A S W X) ∧ Hid (Below w.heap.size w wr)) (fun _ i _ => j + 1 - (intOf i).toNat)
      case atStart => exact ⟨0, _, _, by omega, rfl, HMn, HRn, HBn⟩
      case round =>
        obtain ⟨k, v, B, hk, rfl, HM, HR3, HB4⟩ := hrel
        by_cases hlt : k < j
        · obtain ⟨f1, f2, f3, f4⟩ := HR3.out.four k hlt
          obtain ⟨r1, r2, r3, r4, r5⟩ := HG.out k hlt
          have hmk := run_make_row' (P := Try.prog) 111 5 (.int .u8 0) 1 Try.underlying111 info5 rfl .u64 .u64 (S k) (by omega) (by omega)
          obtain ⟨m1, m2, m3, m4, m5, m6⟩ := HM.out
          have HM5 := Lib.hid m5
          have HM6 := Lib.hid m6
          have HO := Lib.hid m4
          have gj : (k : Int) < j := by omega
          have hgr : g < wr.heap.size := by omega
          clear m4 m5 m6
          go_wp2
          obtain ⟨rk, hrk⟩ : ∃ rk, rk = wr.heap.size := ⟨_, rfl⟩
          rw [← hrk]
          have hmr : mb < rk := by omega
          have c0 : (wr.alloc (.cells #[.int .u64 (A k : Nat), .int .u64 (S k : Nat), .bool (W k), .bool (X k)] 43)).cell? ⟨rk, 0, none⟩ = some (.int .u64 (A k : Nat)) := by subst hrk; exact World.cell?_alloc_at _ _ _ _ rfl
          have c1 : (wr.alloc (.cells #[.int .u64 (A k : Nat), .int .u64 (S k : Nat), .bool (W k), .bool (X k)] 43)).cell? ⟨rk, 1, none⟩ = some (.int .u64 (S k : Nat)) := by subst hrk; exact World.cell?_alloc_at _ _ _ _ rfl
          have c2 : (wr.alloc (.cells #[.int .u64 (A k : Nat), .int .u64 (S k : Nat), .bool (W k), .bool (X k)] 43)).cell? ⟨rk, 2, none⟩ = some (.bool (W k)) := by subst hrk; exact World.cell?_alloc_at _ _ _ _ rfl
          have c3 : (wr.alloc (.cells #[.int .u64 (A k : Nat), .int .u64 (S k : Nat), .bool (W k), .bool (X k)] 43)).cell? ⟨rk, 3, none⟩ = some (.bool (X k)) := by subst hrk; exact World.cell?_alloc_at _ _ _ _ rfl
          have HBa : Hid (Below wr.heap.size wr (wr.alloc (.cells #[.int .u64 (A k : Nat), .int .u64 (S k : Nat), .bool (W k), .bool (X k)] 43))) := Lib.hid ((Below.refl _ _).alloc (Nat.le_refl _) _)
          have HOa : Hid ((wr.alloc (.cells #[.int .u64 (A k : Nat), .int .u64 (S k : Nat), .bool (W k), .bool (X k)] 43)).ownsRow (mb + 1) 113 5 v k (areaCells A S W X B k)) := Lib.hid (HO.out.alloc _)
          have hza : (wr.alloc (.cells #[.int .u64 (A k : Nat), .int .u64 (S k : Nat), .bool (W k), .bool (X k)] 43)).heap.size = rk + 1 := by rw [hrk]; simp
          have hma : (wr.alloc (.cells #[.int .u64 (A k : Nat), .int .u64 (S k : Nat), .bool (W k), .bool (X k)] 43)).cell? ⟨mb, 0, none⟩ = some v := (World.cell?_alloc_past _ _ _ m3).trans m1
          have hfa : (wr.alloc (.cells #[.int .u64 (A k : Nat), .int .u64 (S k : Nat), .bool (W k), .bool (X k)] 43)).frozen? ⟨mb, 0, none⟩ = false := (World.frozen?_alloc_past _ _ _ m3).trans m2
          have HRK := Lib.hid hrk
          have HZA := Lib.hid hza
          have hla : mb < (wr.alloc (.cells #[.int .u64 (A k : Nat), .int .u64 (S k : Nat), .bool (W k), .bool (X k)] 43)).drew.heap.size := by show mb < (wr.alloc (.cells #[.int .u64 (A k : Nat), .int .u64 (S k : Nat), .bool (W k), .bool (X k)] 43)).heap.size; omega
          have hlb : rk < (wr.alloc (.cells #[.int .u64 (A k : Nat), .int .u64 (S k : Nat), .bool (W k), .bool (X k)] 43)).drew.heap.size := by show rk < (wr.alloc (.cells #[.int .u64 (A k : Nat), .int .u64 (S k : Nat), .bool (W k), .bool (X k)] 43)).heap.size; omega
          clear hrk hza f1 f2 f3 f4
          generalize wr.alloc (.cells #[.int .u64 (A k : Nat), .int .u64 (S k : Nat), .bool (W k), .bool (X k)] 43) = wa at *
          have hob : ∀ b, b ≤ mb → v.ownBlock ≠ some b := fun b hb he => by have := (World.ownsRow.lt HOa.out b he).1; omega
          have hor : v.ownBlock ≠ some rk := fun he => by have h1 := (World.ownsRow.lt HO.out rk he).2; have h2 := HRK.out; omega
          have hom : v.ownBlock ≠ some mb := hob mb (Nat.le_refl _)
          have hnew : ∀ o o', ((wa.alloc o).alloc o').drew.heap[wa.heap.size + 1]? = some o' := fun o o' => by have h := heap_alloc_new (wa.alloc o) o'; rw [show (wa.alloc o).heap.size = wa.heap.size + 1 by simp] at h; exact h
          have HNEW := Lib.hid hnew
          have HOB := Lib.hid hob
          have hla2 : mb < wa.heap.size := hla
          have hlb2 : rk < wa.heap.size := hlb
          clear hob hnew
          have NMR : Hid (∀ i, (⟨mb, 0, none⟩ : Addr) ≠ ⟨rk, i, none⟩) := Lib.hid (fun i g => by injection g with g1 _; omega)
          have pp : wa.drew.cell? ⟨mb, 0, none⟩ = some v := hma
          have p0 : ∀ o, (wa.alloc o).drew.cell? ⟨mb, 0, none⟩ = some v := fun o => (World.cell?_alloc_past _ _ _ hla2).trans hma
          have far1 : ∀ o i, (wa.alloc o).drew.cell? ⟨rk, i, none⟩ = wa.cell? ⟨rk, i, none⟩ := fun o i => World.cell?_alloc_past _ _ _ hlb2
          have p1 : ∀ o o', ((wa.alloc o).alloc o').drew.cell? ⟨mb, 0, none⟩ = some v := fun o o' => (World.cell?_alloc_past _ _ _ (by simp; omega)).trans (p0 o)
          have far2 : ∀ o o' i, ((wa.alloc o).alloc o').drew.cell? ⟨rk, i, none⟩ = wa.cell? ⟨rk, i, none⟩ := fun o o' i => (World.cell?_alloc_past _ _ _ (by simp; omega)).trans (far1 o i)
          have FAR1 := Lib.hid far1
          have FAR2 := Lib.hid far2
          have P0 := Lib.hid p0
          have P1 := Lib.hid p1
          clear far1 far2
          have fz1 : ∀ o, (wa.alloc o).drew.frozen? ⟨mb, 0, none⟩ = false := fun o => (World.frozen?_alloc_past _ _ _ hla2).trans hfa
          have fz2 : ∀ o o', ((wa.alloc o).alloc o').drew.frozen? ⟨mb, 0, none⟩ = false := fun o o' => (World.frozen?_alloc_past _ _ _ (by simp; omega)).trans ((World.frozen?_alloc_past _ _ _ hla2).trans hfa)
          have r0 : ∀ o, (wa.alloc o).drew.cell? ⟨rk, 0, none⟩ = some (.int .u64 (A k : Nat)) := fun o => (FAR1.out _ 0).trans c0
          have r1' : ∀ o, (wa.alloc o).drew.cell? ⟨rk, 1, none⟩ = some (.int .u64 (S k : Nat)) := fun o => (FAR1.out _ 1).trans c1
          have r2' : ∀ o, (wa.alloc o).drew.cell? ⟨rk, 2, none⟩ = some (.bool (W k)) := fun o => (FAR1.out _ 2).trans c2
          have r3' : ∀ o, (wa.alloc o).drew.cell? ⟨rk, 3, none⟩ = some (.bool (X k)) := fun o => (FAR1.out _ 3).trans c3
          go_region_law (refine step_append_lies _ (by rfl) _ _ _ (by rfl) (mb + 1) 113 i0 _ 5 48 Try.underlying107 hi hz0 hz1 hz2 rfl (by omega) v k (areaCells A S W X B k) (by rfl) (((HOa.out.alloc _).alloc _)) ⟨wa.heap.size + 1, 0, none⟩ 1 1 [.int .u64 (A k : Nat), .int .u64 (S k : Nat), .bool (W k), .bool (X k), .slice (some ⟨wa.heap.size, 0, none⟩) (S k) (S k)] (by rfl) (by rfl) (World.news_of_block (cs := #[.int .u64 (A k : Nat), .int .u64 (S k : Nat), .bool (W k), .bool (X k), .slice (some ⟨wa.heap.size, 0, none⟩) (S k) (S k)]) (t := 113) (fr := (0, 0)) (HNEW.out _ _)) (by simp [Value.oneCell']) (by omega) (by unfold maxLen; omega) (by omega) (by simp; omega) (wa.heap.size + 2) (by simp) ?_; intro gg cap2 w5 hown1 hgrow hat hlt5; have k4 := (hgrow.cell_far ⟨mb, 0, none⟩ (by simp; omega) (Ne.symm hom)).trans (P1.out _ _); have kf := (hgrow.frozen_far ⟨mb, 0, none⟩ (by simp; omega) (Ne.symm hom)).trans (fz2 _ _))
          all_goals
            have hB6 := made_below (x := .slice (some ⟨gg, 0, none⟩) (k + 1) cap2) HM.out HBa.out hgrow
            have HM6' := Lib.hid (made_step HM.out HBa.out (by have h1 := HZA.out; have h2 := HRK.out; omega) hgrow hown1 hat hlt5)
            have HR6 := Lib.hid (HR3.out.below hB6 hgm)
            have HB6 := Lib.hid (HB4.out.trans (hB6.mono hm1))
            clear hB6 hgrow hown1 hat k4 kf
            go_wp2
            exact ⟨⟨k + 1, _, _, by omega, by simp, HM6', HR6, HB6⟩, by simp [intOf]; omega⟩
        · obtain rfl : k = j := by omega
          go_wp2
          refine bodyPost_ret (v := .tuple #[.pointer (some ⟨mb, 0, none⟩), .int .i64 0]) (by simp [results, Try.results37, go_sem]) rfl ⟨mb, v, B, rfl, hm1, HM.out, HB4.out⟩
end Go.Proofs.Ytapcapcbndooiaa
