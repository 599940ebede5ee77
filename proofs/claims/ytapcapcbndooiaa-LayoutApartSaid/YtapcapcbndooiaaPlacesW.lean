import Derived.Test.YtapcapcbndooiaaRows
import Derived.WalkKit
import Derived.ProofKit
import Derived.OpenShut
import Derived.Deep.QuietTactic
import Derived.BigQuiet
import Derived.Outline
import Derived.WalkSmall
import Derived.WalkLawsBesides
import Derived.WalkSpells
import Derived.BigGuardPart
import Derived.Test.YtapcapcbndooiaaWhich
import Derived.RegionTactic
import Derived.Deep.RegionHeld3
import Derived.Lib.Hide
namespace Go.Proofs.Ytapcapcbndooiaa
open Go.ChangeShapes Go.WideShapes Go.ChangeAt Go.RowKit
set_option linter.unusedVariables false
instance (c0 c1 c3 : Int) (j : Nat) (a : Int) : Decidable (inR c0 c1 c3 j a) := by unfold inR; infer_instance
def whichF (c0 c1 c3 a : Int) : Int := if inR c0 c1 c3 0 a then 1 else if inR c0 c1 c3 1 a then 2 else if inR c0 c1 c3 2 a then 3 else if inR c0 c1 c3 3 a then 4 else if inR c0 c1 c3 4 a then 5 else 0
theorem whichF_is (c0 c1 c3 a : Int) : WhichIs c0 c1 c3 a (whichF c0 c1 c3 a) := by
  unfold whichF
  by_cases h0 : inR c0 c1 c3 0 a
  · rw [if_pos h0]; exact Or.inl ⟨0, by omega, h0, rfl⟩
  rw [if_neg h0]
  by_cases h1 : inR c0 c1 c3 1 a
  · rw [if_pos h1]; exact Or.inl ⟨1, by omega, h1, rfl⟩
  rw [if_neg h1]
  by_cases h2 : inR c0 c1 c3 2 a
  · rw [if_pos h2]; exact Or.inl ⟨2, by omega, h2, rfl⟩
  rw [if_neg h2]
  by_cases h3 : inR c0 c1 c3 3 a
  · rw [if_pos h3]; exact Or.inl ⟨3, by omega, h3, rfl⟩
  rw [if_neg h3]
  by_cases h4 : inR c0 c1 c3 4 a
  · rw [if_pos h4]; exact Or.inl ⟨4, by omega, h4, rfl⟩
  rw [if_neg h4]
  refine Or.inr ⟨?_, rfl⟩
  intro k hk
  have : k = 0 ∨ k = 1 ∨ k = 2 ∨ k = 3 ∨ k = 4 := by omega
  rcases this with rfl | rfl | rfl | rfl | rfl <;> assumption
def RetB (v : Value) (w : World) (e : Ending) (w' : World) : Prop := e = .returned v ∧ Below w.heap.size w w'
theorem which_b (c0 c1 c2 c3 c4 a : Int) (w : World) (h : ok5 c0 c1 c2 c3 c4) (ha : 0 ≤ a) (ha' : a < 18446744073709551616) : Calls Try.prog 57 #[.agg #[.int .i64 c0, .int .i64 c1, .int .i64 c2, .int .i64 c3, .int .i64 c4], .int .u64 a] w (RetB (.int .i64 (whichF c0 c1 c3 a)) w) := by
  have h0 := h
  unfold ok5 at h0
  refine (which_c _ _ _ _ _ _ _ h ha ha').mono ?_
  rintro e w' ⟨⟨n, rfl, hn⟩, hb⟩
  exact ⟨by rw [hn.uniq h0.1.1 h0.1.2 h0.2.1.2 h0.2.2.2.1.2 (whichF_is _ _ _ _)], hb⟩
theorem rwhich_b (c0 c1 c2 c3 c4 a : Int) (w : World) (h : ok5 c0 c1 c2 c3 c4) (ha : 0 ≤ a) (ha' : a < 18446744073709551616) : Calls Try.prog 58 #[.agg #[.int .i64 c0, .int .i64 c1, .int .i64 c2, .int .i64 c3, .int .i64 c4], .int .u64 a] w (RetB (.int .i64 (whichF c0 c1 c3 a)) w) := by
  have h0 := h
  unfold ok5 at h0
  refine (rwhich_c _ _ _ _ _ _ _ h ha ha').mono ?_
  rintro e w' ⟨⟨n, rfl, hn⟩, hb⟩
  exact ⟨by rw [hn.uniq h0.1.1 h0.1.2 h0.2.1.2 h0.2.2.2.1.2 (whichF_is _ _ _ _)], hb⟩
theorem which_nb (c0 c1 c2 c3 c4 a : Int) (w : World) (h : ¬ ok5 c0 c1 c2 c3 c4) : Calls Try.prog 57 #[.agg #[.int .i64 c0, .int .i64 c1, .int .i64 c2, .int .i64 c3, .int .i64 c4], .int .u64 a] w (RetB (.int .i64 0) w) := which_n _ _ _ _ _ _ _ h
theorem rwhich_nb (c0 c1 c2 c3 c4 a : Int) (w : World) (h : ¬ ok5 c0 c1 c2 c3 c4) : Calls Try.prog 58 #[.agg #[.int .i64 c0, .int .i64 c1, .int .i64 c2, .int .i64 c3, .int .i64 c4], .int .u64 a] w (RetB (.int .i64 0) w) := rwhich_n _ _ _ _ _ _ _ h
theorem reg_b (c0 c1 c2 c3 c4 : Int) (w : World) (h : ¬ ok5 c0 c1 c2 c3 c4) : Calls Try.prog 52 #[.agg #[.int .i64 c0, .int .i64 c1, .int .i64 c2, .int .i64 c3, .int .i64 c4]] w (RetB (.slice none 0 0) w) := by
  refine (reg_n _ _ _ _ _ _ h).mono ?_
  rintro e w' ⟨rfl, rfl⟩
  exact ⟨rfl, ((Below.refl _ _).alloc (Nat.le_refl _) _).alloc (by simp) _⟩
theorem rreg_b (c0 c1 c2 c3 c4 : Int) (w : World) (h : ¬ ok5 c0 c1 c2 c3 c4) : Calls Try.prog 53 #[.agg #[.int .i64 c0, .int .i64 c1, .int .i64 c2, .int .i64 c3, .int .i64 c4]] w (RetB (.slice none 0 0) w) := by
  refine (rreg_n _ _ _ _ _ _ h).mono ?_
  rintro e w' ⟨rfl, rfl⟩
  exact ⟨rfl, ((Below.refl _ _).alloc (Nat.le_refl _) _).alloc (by simp) _⟩
theorem check_b (c0 c1 c2 c3 c4 : Int) (w : World) : Calls Try.prog 55 #[.agg #[.int .i64 c0, .int .i64 c1, .int .i64 c2, .int .i64 c3, .int .i64 c4]] w (RetB (.int .i64 (checkS c0 c1 c2 c3 c4)) w) := by
  refine (check_c _ _ _ _ _ _).mono ?_
  rintro e w' ⟨rfl, rfl⟩
  exact ⟨rfl, (Below.refl _ _).alloc (Nat.le_refl _) _⟩
theorem rcheck_b (c0 c1 c2 c3 c4 : Int) (w : World) : Calls Try.prog 56 #[.agg #[.int .i64 c0, .int .i64 c1, .int .i64 c2, .int .i64 c3, .int .i64 c4]] w (RetB (.int .i64 (checkS c0 c1 c2 c3 c4)) w) := by
  refine (rcheck_c _ _ _ _ _ _).mono ?_
  rintro e w' ⟨rfl, rfl⟩
  exact ⟨rfl, (Below.refl _ _).alloc (Nat.le_refl _) _⟩
theorem of_b (c0 c1 c2 c3 c4 : Int) (w : World) : Calls Try.prog 54 #[.agg #[.int .i64 c0, .int .i64 c1, .int .i64 c2, .int .i64 c3, .int .i64 c4]] w (RetB (.agg #[.int .i64 c0, .int .i64 c1, .int .i64 c2, .int .i64 c3, .int .i64 c4]) w) := of_c _ _ _ _ _ _
def BoxAt (w : World) (b : Nat) (c0 c1 c2 c3 c4 : Int) : Prop := w.cell? ⟨b, 0, none⟩ = some (.int .i64 c0) ∧ w.cell? ⟨b, 1, none⟩ = some (.int .i64 c1) ∧ w.cell? ⟨b, 2, none⟩ = some (.int .i64 c2) ∧ w.cell? ⟨b, 3, none⟩ = some (.int .i64 c3) ∧ w.cell? ⟨b, 4, none⟩ = some (.int .i64 c4)
theorem BoxAt.below {w w' : World} {b B : Nat} {c0 c1 c2 c3 c4 : Int} (h : BoxAt w b c0 c1 c2 c3 c4) (hb : Below B w w') (hg : b < B) : BoxAt w' b c0 c1 c2 c3 c4 :=
  ⟨(hb.cell (p := ⟨b, _, none⟩) hg).trans h.1, (hb.cell (p := ⟨b, _, none⟩) hg).trans h.2.1, (hb.cell (p := ⟨b, _, none⟩) hg).trans h.2.2.1, (hb.cell (p := ⟨b, _, none⟩) hg).trans h.2.2.2.1, (hb.cell (p := ⟨b, _, none⟩) hg).trans h.2.2.2.2⟩
theorem BoxAt.made (w : World) (c0 c1 c2 c3 c4 : Int) : BoxAt (w.alloc (.cells #[.int .i64 c0, .int .i64 c1, .int .i64 c2, .int .i64 c3, .int .i64 c4] 68)) w.heap.size c0 c1 c2 c3 c4 :=
  ⟨World.cell?_alloc_at _ _ _ _ rfl, World.cell?_alloc_at _ _ _ _ rfl, World.cell?_alloc_at _ _ _ _ rfl, World.cell?_alloc_at _ _ _ _ rfl, World.cell?_alloc_at _ _ _ _ rfl⟩
theorem keepS {w w3 w4 w' : World} {c0 c1 c2 c3 c4 : Int} (hw : w.heap.size < w3.heap.size) (h : w4.cell? ⟨w.heap.size, 0, none⟩ = some (.int .i64 c0) ∧ w4.cell? ⟨w.heap.size, 1, none⟩ = some (.int .i64 c1) ∧ w4.cell? ⟨w.heap.size, 2, none⟩ = some (.int .i64 c2) ∧ w4.cell? ⟨w.heap.size, 3, none⟩ = some (.int .i64 c3) ∧ w4.cell? ⟨w.heap.size, 4, none⟩ = some (.int .i64 c4) ∧ Hid (Below w3.heap.size w3 w4)) (hb : Below w4.heap.size w4 w') :
    w'.cell? ⟨w.heap.size, 0, none⟩ = some (.int .i64 c0) ∧ w'.cell? ⟨w.heap.size, 1, none⟩ = some (.int .i64 c1) ∧ w'.cell? ⟨w.heap.size, 2, none⟩ = some (.int .i64 c2) ∧ w'.cell? ⟨w.heap.size, 3, none⟩ = some (.int .i64 c3) ∧ w'.cell? ⟨w.heap.size, 4, none⟩ = some (.int .i64 c4) ∧ Hid (Below w3.heap.size w3 w') := by
  obtain ⟨x0, x1, x2, x3, x4, hk⟩ := h
  have hs := hk.out.size
  obtain ⟨y0, y1, y2, y3, y4⟩ := BoxAt.below (b := w.heap.size) ⟨x0, x1, x2, x3, x4⟩ hb (by omega)
  exact ⟨y0, y1, y2, y3, y4, Lib.hid (hk.out.trans (hb.mono hs))⟩
set_option maxRecDepth 1000000 in
set_option maxHeartbeats 4000000 in
theorem law_y (c0 c1 c2 c3 c4 a c o s k : Int) (w : World) (h : ok5 c0 c1 c2 c3 c4) (ha : 0 ≤ a) (ha' : a < 18446744073709551616) (hc : -9223372036854775808 ≤ c) (hc' : c ≤ 9223372036854775807) :
    Calls Try.prog 11 #[.agg #[.int .i64 c0, .int .i64 c1, .int .i64 c2, .int .i64 c3, .int .i64 c4], .int .u64 a, .int .i64 c, .int .i64 o, .int .i64 s, .int .i64 k] w fun e w' => e = .returned (.bool true) ∧ Below w.heap.size w w' := by
  have H := Lib.hid h
  clear h
  go_enter Try.func11, Try.ntmps11
  go_wp2_with (first | (go_at_call 51; refine (known_c _).mono ?_; rintro e w' ⟨rfl, rfl⟩) | (go_at_call 52; refine (reg_p _ _ _ _ _ _ H.out).mono ?_; rintro e w1 ⟨g, rfl, hg1, hg2, hR, hB⟩; have HK := Lib.hid ((BoxAt.made w c0 c1 c2 c3 c4).below hB (by simp)); obtain ⟨x0, x1, x2, x3, x4⟩ := HK.out; have HB := Lib.hid (((Below.refl _ _).alloc (Nat.le_refl _) _).trans (hB.mono (by simp))); have HR := Lib.hid hR; clear hR hB))
  refine (of_b _ _ _ _ _ _).mono ?_
  rintro e w2 ⟨rfl, hb2⟩
  have hs2 := hb2.size
  have HR2 := Lib.hid (HR.out.below hb2 hg2)
  have hw2 : w.heap.size < w2.heap.size := by simp at hg1; omega
  have HK2 := Lib.hid (HK.out.below hb2 (by simp at hg1; omega))
  have HB2 := Lib.hid (HB.out.trans (hb2.mono (by simp at hg1; omega)))
  simp at hg1
  clear hb2 x0 x1 x2 x3 x4 HK HB HR
  go_wp2_with (go_at_call 53; refine (rreg_p _ _ _ _ _ _ H.out).mono ?_; rintro e w3 ⟨g', rfl, hg3, hg4, hR, hB⟩; have HK := Lib.hid (HK2.out.below hB (by omega)); have HRA := Lib.hid (HR2.out.below hB (by omega)); have HB := Lib.hid (HB2.out.trans (hB.mono (by omega))); have HR := Lib.hid hR; have hs3 := hB.size; clear hR hB)
  clear HB2 HK2 HR2
  have hw3 : w.heap.size < w3.heap.size := by omega
  have HQ : Hid (Below w3.heap.size w3 w3.drew) := Lib.hid (Below.refl _ _).drew
  obtain ⟨x0, x1, x2, x3, x4⟩ := HK.out
  go_region_held3 (fun w' => w'.cell? ⟨w.heap.size, 0, none⟩ = some (.int .i64 c0) ∧ w'.cell? ⟨w.heap.size, 1, none⟩ = some (.int .i64 c1) ∧ w'.cell? ⟨w.heap.size, 2, none⟩ = some (.int .i64 c2) ∧ w'.cell? ⟨w.heap.size, 3, none⟩ = some (.int .i64 c3) ∧ w'.cell? ⟨w.heap.size, 4, none⟩ = some (.int .i64 c4) ∧ Hid (Below w3.heap.size w3 w')) (first | exact ⟨x0, x1, x2, x3, x4, HQ⟩ | exact keepS hw3 (by assumption) (by assumption)) (first | (go_at_call 55; refine (check_b _ _ _ _ _ _).mono ?_; rintro e w' ⟨rfl, hb⟩) | (go_at_call 54; refine (of_b _ _ _ _ _ _).mono ?_; rintro e w' ⟨rfl, hb⟩) | (go_at_call 56; refine (rcheck_b _ _ _ _ _ _).mono ?_; rintro e w' ⟨rfl, hb⟩) | (go_at_call 57; refine (which_b _ _ _ _ _ _ _ H.out ha ha').mono ?_; rintro e w' ⟨rfl, hb⟩) | (go_at_call 58; refine (rwhich_b _ _ _ _ _ _ _ H.out ha ha').mono ?_; rintro e w' ⟨rfl, hb⟩))
  rename_i hH
  obtain ⟨_, _, _, _, _, hk⟩ := hH
  have HA5 := Lib.hid (HRA.out.below hk.out (by omega))
  have HR5 := Lib.hid (HR.out.below hk.out (by omega))
  have HB5 := Lib.hid (HB.out.trans (hk.out.mono (by omega)))
  generalize w' = w5 at *
  go_wp2
  clear HRA HR HB
  go_loopw [12, 15] (fun r i wr => r = .bool false ∧ ∃ j : Nat, j ≤ 5 ∧ i = .int .i64 j ∧ Hid (RegAt wr g c0 c1 c3) ∧ Hid (RegAt wr g' c0 c1 c3) ∧ Hid (Below w.heap.size w wr)) (fun _ i _ => 5 - (intOf i).toNat)
  case atStart => exact ⟨rfl, 0, by omega, rfl, HA5, HR5, HB5⟩
  case round =>
    obtain ⟨rfl, j, hj, rfl, HAr, HRr, HBr⟩ := hrel
    by_cases hlt : j < 5
    · obtain ⟨f1, f2, f3, f4⟩ := HAr.out j hlt
      obtain ⟨e1, e2, e3, e4⟩ := HRr.out j hlt
      have gj : (j : Int) < 5 := by omega
      go_wp2
      go_quiet (fail)
      go_wp2
      exact ⟨⟨rfl, j + 1, by omega, by simp, Lib.hid (HAr.out.drewN _), Lib.hid (HRr.out.drewN _), Lib.hid (below_drewN HBr.out _)⟩, by simp [intOf]; omega⟩
    · obtain rfl : j = 5 := by omega
      by_cases hs : s ≤ 1099511627776
      · have hs40 := hs
        have hs64 : s ≤ 9223372036854775807 := by omega
        go_wp2_with (first | (go_at_call 59; refine (stack_c _ _).mono ?_; rintro e w' ⟨rfl, rfl⟩) | (go_at_call 60; refine (rstack_c _ _ hc hc').mono ?_; rintro e w' ⟨rfl, rfl⟩) | (go_at_call 61; refine (obj_c _ _ ha ha').mono ?_; rintro e w' ⟨rfl, rfl⟩) | (go_at_call 62; refine (robj_c _ _ ha ha').mono ?_; rintro e w' ⟨rfl, rfl⟩) | (go_at_call 63; refine (addr_c _ _).mono ?_; rintro e w' ⟨rfl, rfl⟩) | (go_at_call 64; refine (raddr_c _ _).mono ?_; rintro e w' ⟨rfl, rfl⟩) | (go_at_call 65; refine (slot_c _ _ _ hs64).mono ?_; rintro e w' ⟨rfl, rfl⟩) | (go_at_call 66; refine (rslot_c _ _ _ hs40).mono ?_; rintro e w' ⟨rfl, rfl⟩) | (go_at_call 67; refine (bytes_c _ _ hs64).mono ?_; rintro e w' ⟨rfl, rfl⟩) | (go_at_call 68; refine (rbytes_c _ _ hs64).mono ?_; rintro e w' ⟨rfl, rfl⟩) | (go_at_call 69; refine (kind_c _ _).mono ?_; rintro e w' ⟨rfl, rfl⟩) | (go_at_call 70; refine (rkind_c _ _).mono ?_; rintro e w' ⟨rfl, rfl⟩) | (go_at_call 71; refine (class_c _ _ ha ha').mono ?_; rintro e w' ⟨rfl, rfl⟩) | (go_at_call 72; refine (rclass_c _ _ ha ha').mono ?_; rintro e w' ⟨rfl, rfl⟩))
        refine bodyPost_ret (v := .bool true) (by simp [results, Try.results11, go_sem]) rfl ⟨rfl, HBr.out⟩
      · have hs40 : (1099511627776 : Int) ≤ 1099511627776 := by omega
        have hs64 : (1099511627776 : Int) ≤ 9223372036854775807 := by omega
        go_wp2_with (first | (go_at_call 59; refine (stack_c _ _).mono ?_; rintro e w' ⟨rfl, rfl⟩) | (go_at_call 60; refine (rstack_c _ _ hc hc').mono ?_; rintro e w' ⟨rfl, rfl⟩) | (go_at_call 61; refine (obj_c _ _ ha ha').mono ?_; rintro e w' ⟨rfl, rfl⟩) | (go_at_call 62; refine (robj_c _ _ ha ha').mono ?_; rintro e w' ⟨rfl, rfl⟩) | (go_at_call 63; refine (addr_c _ _).mono ?_; rintro e w' ⟨rfl, rfl⟩) | (go_at_call 64; refine (raddr_c _ _).mono ?_; rintro e w' ⟨rfl, rfl⟩) | (go_at_call 65; refine (slot_c _ _ _ hs64).mono ?_; rintro e w' ⟨rfl, rfl⟩) | (go_at_call 66; refine (rslot_c _ _ _ hs40).mono ?_; rintro e w' ⟨rfl, rfl⟩) | (go_at_call 67; refine (bytes_c _ _ hs64).mono ?_; rintro e w' ⟨rfl, rfl⟩) | (go_at_call 68; refine (rbytes_c _ _ hs64).mono ?_; rintro e w' ⟨rfl, rfl⟩) | (go_at_call 69; refine (kind_c _ _).mono ?_; rintro e w' ⟨rfl, rfl⟩) | (go_at_call 70; refine (rkind_c _ _).mono ?_; rintro e w' ⟨rfl, rfl⟩) | (go_at_call 71; refine (class_c _ _ ha ha').mono ?_; rintro e w' ⟨rfl, rfl⟩) | (go_at_call 72; refine (rclass_c _ _ ha ha').mono ?_; rintro e w' ⟨rfl, rfl⟩))
        refine bodyPost_ret (v := .bool true) (by simp [results, Try.results11, go_sem]) rfl ⟨rfl, HBr.out⟩

set_option maxRecDepth 1000000 in
set_option maxHeartbeats 4000000 in
theorem law_n (c0 c1 c2 c3 c4 a c o s k : Int) (w : World) (h : ¬ ok5 c0 c1 c2 c3 c4) (ha : 0 ≤ a) (ha' : a < 18446744073709551616) (hc : -9223372036854775808 ≤ c) (hc' : c ≤ 9223372036854775807) :
    Calls Try.prog 11 #[.agg #[.int .i64 c0, .int .i64 c1, .int .i64 c2, .int .i64 c3, .int .i64 c4], .int .u64 a, .int .i64 c, .int .i64 o, .int .i64 s, .int .i64 k] w fun e w' => e = .returned (.bool true) ∧ Below w.heap.size w w' := by
  have H := Lib.hid h
  clear h
  go_enter Try.func11, Try.ntmps11
  go_wp2_with (first | (go_at_call 51; refine (known_c _).mono ?_; rintro e w' ⟨rfl, rfl⟩) | (go_at_call 52; refine (reg_b _ _ _ _ _ _ H.out).mono ?_; rintro e w1 ⟨rfl, hB⟩; have HK := Lib.hid ((BoxAt.made w c0 c1 c2 c3 c4).below hB (by simp)); obtain ⟨x0, x1, x2, x3, x4⟩ := HK.out; have HB := Lib.hid (((Below.refl _ _).alloc (Nat.le_refl _) _).trans (hB.mono (by simp))); have hw1 := hB.size; simp at hw1; clear hB) )
  refine (of_b _ _ _ _ _ _).mono ?_
  rintro e w2 ⟨rfl, hb2⟩
  have hs2 := hb2.size
  have hw2 : w.heap.size < w2.heap.size := by omega
  have HK2 := Lib.hid (HK.out.below hb2 (by omega))
  have HB2 := Lib.hid (HB.out.trans (hb2.mono (by omega)))
  clear hb2 x0 x1 x2 x3 x4 HK HB
  go_wp2_with (go_at_call 53; refine (rreg_b _ _ _ _ _ _ H.out).mono ?_; rintro e w3 ⟨rfl, hB⟩; have HK := Lib.hid (HK2.out.below hB (by omega)); have HB := Lib.hid (HB2.out.trans (hB.mono (by omega))); have hs3 := hB.size; clear hB)
  clear HB2 HK2
  have hw3 : w.heap.size < w3.heap.size := by omega
  have HQ : Hid (Below w3.heap.size w3 w3.drew) := Lib.hid (Below.refl _ _).drew
  obtain ⟨x0, x1, x2, x3, x4⟩ := HK.out
  go_region_held3 (fun w' => w'.cell? ⟨w.heap.size, 0, none⟩ = some (.int .i64 c0) ∧ w'.cell? ⟨w.heap.size, 1, none⟩ = some (.int .i64 c1) ∧ w'.cell? ⟨w.heap.size, 2, none⟩ = some (.int .i64 c2) ∧ w'.cell? ⟨w.heap.size, 3, none⟩ = some (.int .i64 c3) ∧ w'.cell? ⟨w.heap.size, 4, none⟩ = some (.int .i64 c4) ∧ Hid (Below w3.heap.size w3 w')) (first | exact ⟨x0, x1, x2, x3, x4, HQ⟩ | exact keepS hw3 (by assumption) (by assumption)) (first | (go_at_call 55; refine (check_b _ _ _ _ _ _).mono ?_; rintro e w' ⟨rfl, hb⟩) | (go_at_call 54; refine (of_b _ _ _ _ _ _).mono ?_; rintro e w' ⟨rfl, hb⟩) | (go_at_call 56; refine (rcheck_b _ _ _ _ _ _).mono ?_; rintro e w' ⟨rfl, hb⟩) | (go_at_call 57; refine (which_nb _ _ _ _ _ _ _ H.out).mono ?_; rintro e w' ⟨rfl, hb⟩) | (go_at_call 58; refine (rwhich_nb _ _ _ _ _ _ _ H.out).mono ?_; rintro e w' ⟨rfl, hb⟩))
  rename_i hH
  obtain ⟨_, _, _, _, _, hk⟩ := hH
  have HB5 := Lib.hid (HB.out.trans (hk.out.mono (by omega)))
  generalize w' = w5 at *
  go_wp2
  clear HB
  go_loopw [12, 15] (fun r i wr => r = .bool false ∧ i = .int .i64 0 ∧ Hid (Below w.heap.size w wr)) (fun _ i _ => 0)
  case atStart => exact ⟨rfl, rfl, HB5⟩
  case round =>
    obtain ⟨rfl, rfl, HBr⟩ := hrel
    by_cases hs : s ≤ 1099511627776
    · have hs40 := hs
      have hs64 : s ≤ 9223372036854775807 := by omega
      go_wp2_with (first | (go_at_call 59; refine (stack_c _ _).mono ?_; rintro e w' ⟨rfl, rfl⟩) | (go_at_call 60; refine (rstack_c _ _ hc hc').mono ?_; rintro e w' ⟨rfl, rfl⟩) | (go_at_call 61; refine (obj_c _ _ ha ha').mono ?_; rintro e w' ⟨rfl, rfl⟩) | (go_at_call 62; refine (robj_c _ _ ha ha').mono ?_; rintro e w' ⟨rfl, rfl⟩) | (go_at_call 63; refine (addr_c _ _).mono ?_; rintro e w' ⟨rfl, rfl⟩) | (go_at_call 64; refine (raddr_c _ _).mono ?_; rintro e w' ⟨rfl, rfl⟩) | (go_at_call 65; refine (slot_c _ _ _ hs64).mono ?_; rintro e w' ⟨rfl, rfl⟩) | (go_at_call 66; refine (rslot_c _ _ _ hs40).mono ?_; rintro e w' ⟨rfl, rfl⟩) | (go_at_call 67; refine (bytes_c _ _ hs64).mono ?_; rintro e w' ⟨rfl, rfl⟩) | (go_at_call 68; refine (rbytes_c _ _ hs64).mono ?_; rintro e w' ⟨rfl, rfl⟩) | (go_at_call 69; refine (kind_c _ _).mono ?_; rintro e w' ⟨rfl, rfl⟩) | (go_at_call 70; refine (rkind_c _ _).mono ?_; rintro e w' ⟨rfl, rfl⟩) | (go_at_call 71; refine (class_c _ _ ha ha').mono ?_; rintro e w' ⟨rfl, rfl⟩) | (go_at_call 72; refine (rclass_c _ _ ha ha').mono ?_; rintro e w' ⟨rfl, rfl⟩))
      refine bodyPost_ret (v := .bool true) (by simp [results, Try.results11, go_sem]) rfl ⟨rfl, HBr.out⟩
    · have hs40 : (1099511627776 : Int) ≤ 1099511627776 := by omega
      have hs64 : (1099511627776 : Int) ≤ 9223372036854775807 := by omega
      go_wp2_with (first | (go_at_call 59; refine (stack_c _ _).mono ?_; rintro e w' ⟨rfl, rfl⟩) | (go_at_call 60; refine (rstack_c _ _ hc hc').mono ?_; rintro e w' ⟨rfl, rfl⟩) | (go_at_call 61; refine (obj_c _ _ ha ha').mono ?_; rintro e w' ⟨rfl, rfl⟩) | (go_at_call 62; refine (robj_c _ _ ha ha').mono ?_; rintro e w' ⟨rfl, rfl⟩) | (go_at_call 63; refine (addr_c _ _).mono ?_; rintro e w' ⟨rfl, rfl⟩) | (go_at_call 64; refine (raddr_c _ _).mono ?_; rintro e w' ⟨rfl, rfl⟩) | (go_at_call 65; refine (slot_c _ _ _ hs64).mono ?_; rintro e w' ⟨rfl, rfl⟩) | (go_at_call 66; refine (rslot_c _ _ _ hs40).mono ?_; rintro e w' ⟨rfl, rfl⟩) | (go_at_call 67; refine (bytes_c _ _ hs64).mono ?_; rintro e w' ⟨rfl, rfl⟩) | (go_at_call 68; refine (rbytes_c _ _ hs64).mono ?_; rintro e w' ⟨rfl, rfl⟩) | (go_at_call 69; refine (kind_c _ _).mono ?_; rintro e w' ⟨rfl, rfl⟩) | (go_at_call 70; refine (rkind_c _ _).mono ?_; rintro e w' ⟨rfl, rfl⟩) | (go_at_call 71; refine (class_c _ _ ha ha').mono ?_; rintro e w' ⟨rfl, rfl⟩) | (go_at_call 72; refine (rclass_c _ _ ha ha').mono ?_; rintro e w' ⟨rfl, rfl⟩))
      refine bodyPost_ret (v := .bool true) (by simp [results, Try.results11, go_sem]) rfl ⟨rfl, HBr.out⟩
end Go.Proofs.Ytapcapcbndooiaa
