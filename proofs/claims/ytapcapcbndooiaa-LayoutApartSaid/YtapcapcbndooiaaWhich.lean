import Derived.Test.YtapcapcbndooiaaRows
import Derived.WalkKit
import Derived.ProofKit
import Derived.OpenShut
import Derived.Deep.QuietTactic
import Derived.BigQuiet
import Derived.Outline
import Derived.WalkSmall
import Derived.WalkLawsBesides
import Derived.WalkSpells
import Derived.BigGuardPart
import Derived.Test.YtapcapcbndooiaaIndex
import Derived.RegionTactic
import Derived.Lib.Hide
namespace Go.Proofs.Ytapcapcbndooiaa
open Go.ChangeShapes Go.WideShapes Go.ChangeAt Go.RowKit
set_option linter.unusedVariables false
set_option maxRecDepth 100000 in
set_option maxHeartbeats 2000000 in
theorem holder_z (a : Int) (w : World) : Calls Try.prog 108 #[.slice none 0 0, .int .u64 a] w fun e w' => e = .returned (.agg zeroR) ∧ Below w.heap.size w w' := by
  go_enter Try.func108, Try.ntmps108
  go_wp2
  go_loopw [9] (fun i wr => i = .int .i64 0 ∧ wr = w.alloc (.cells #[.int .u64 0, .int .u64 0, .bool false, .bool false] 43)) (fun i _ => 0)
  case atStart => exact ⟨rfl, rfl⟩
  case round =>
    obtain ⟨rfl, rfl⟩ := hrel
    have q : ∀ o, (w.alloc (.cells #[.int .u64 0, .int .u64 0, .bool false, .bool false] 43)).cell? ⟨w.heap.size, o, none⟩ = (#[Value.int .u64 0, .int .u64 0, .bool false, .bool false])[o]? := fun o => World.cell?_alloc_at _ _ _ _ rfl
    have q0 := q 0
    have q1 := q 1
    have q2 := q 2
    have q3 := q 3
    have z : ∀ o, (w.alloc (.cells #[.int .u64 0, .int .u64 0, .bool false, .bool false] 43)).frozen? ⟨w.heap.size, o, none⟩ = false := fun o => World.frozen?_alloc_at _ _ _ _ rfl
    have z0 := z 0
    have z1 := z 1
    have z2 := z 2
    have z3 := z 3
    have HB : Hid (Below w.heap.size w (w.alloc (.cells #[.int .u64 0, .int .u64 0, .bool false, .bool false] 43))) := Lib.hid ((Below.refl _ _).alloc (Nat.le_refl _) _)
    generalize w.alloc (.cells #[.int .u64 0, .int .u64 0, .bool false, .bool false] 43) = wr at *
    clear q z
    go_wp2
    obtain ⟨t0, t1, t2, t3⟩ := set4 wr w.heap.size _ _ _ _ (.int .u64 0) (.int .u64 0) (.bool false) (.bool false) q0 q1 q2 q3
    refine bodyPost_ret (v := .agg zeroR) (by simp [results, Try.results108, go_sem, zeroR, t0, t1, t2, t3]) rfl ⟨rfl, ?_⟩
    exact (((HB.out.setCell (Nat.le_refl _) _).setCell (Nat.le_refl _) _).setCell (Nat.le_refl _) _).setCell (Nat.le_refl _) _
set_option maxRecDepth 100000 in
set_option maxHeartbeats 2000000 in
theorem index_z (w : World) : Calls Try.prog 107 #[.slice none 0 0, .agg zeroR] w fun e w' => e = .returned (.int .i64 (-1)) ∧ Below w.heap.size w w' := by
  unfold zeroR
  go_enter Try.func107, Try.ntmps107
  go_wp2
  go_loopw [4, 5, 8] (fun _ _ i wr => i = .int .i64 0 ∧ wr = w.alloc (.cells #[.int .u64 0, .int .u64 0, .bool false, .bool false] 43)) (fun _ _ i _ => 0)
  case atStart => exact ⟨rfl, rfl⟩
  case round =>
    obtain ⟨rfl, rfl⟩ := hrel
    go_wp2
    refine bodyPost_ret (v := .int .i64 (-1)) (by simp [results, Try.results107, go_sem]) rfl ⟨rfl, (Below.refl _ _).alloc (Nat.le_refl _) _⟩
def RegP (c0 c1 c3 : Int) (w : World) (e : Ending) (w' : World) : Prop := ∃ g : Nat, e = .returned (.slice (some ⟨g, 0, none⟩) 5 5) ∧ w.heap.size ≤ g ∧ g < w'.heap.size ∧ RegAt w' g c0 c1 c3 ∧ Below w.heap.size w w'
theorem reg_p (c0 c1 c2 c3 c4 : Int) (w : World) (h : ok5 c0 c1 c2 c3 c4) : Calls Try.prog 52 #[.agg #[.int .i64 c0, .int .i64 c1, .int .i64 c2, .int .i64 c3, .int .i64 c4]] w (RegP c0 c1 c3 w) := by
  refine (reg_c _ _ _ _ _ _ h).mono ?_
  rintro e w' ⟨rfl, rfl⟩
  refine ⟨w.heap.size + 2, rfl, by omega, by simp, ?_, ?_⟩
  · have := RegAt.made ((w.alloc (.cells #[.int .i64 c0, .int .i64 c1, .int .i64 c2, .int .i64 c3, .int .i64 c4] 68)).alloc (.cells #[.int .i64 c0, .int .i64 c1, .int .i64 c2, .int .i64 c3, .int .i64 c4] 68)) c0 c1 c3
    simpa using this
  · exact (((Below.refl _ _).alloc (Nat.le_refl _) _).alloc (by simp) _).alloc (by simp; omega) _
theorem rreg_p (c0 c1 c2 c3 c4 : Int) (w : World) (h : ok5 c0 c1 c2 c3 c4) : Calls Try.prog 53 #[.agg #[.int .i64 c0, .int .i64 c1, .int .i64 c2, .int .i64 c3, .int .i64 c4]] w (RegP c0 c1 c3 w) := by
  refine (rreg_c _ _ _ _ _ _ h).mono ?_
  rintro e w' ⟨rfl, rfl⟩
  refine ⟨w.heap.size + 2, rfl, by omega, by simp, ?_, ?_⟩
  · have := RegAt.made ((w.alloc (.cells #[.int .i64 c0, .int .i64 c1, .int .i64 c2, .int .i64 c3, .int .i64 c4] 71)).alloc (.cells #[.int .i64 c0, .int .i64 c1, .int .i64 c2, .int .i64 c3, .int .i64 c4] 71)) c0 c1 c3
    simpa using this
  · exact (((Below.refl _ _).alloc (Nat.le_refl _) _).alloc (by simp) _).alloc (by simp; omega) _
set_option maxRecDepth 100000 in
set_option maxHeartbeats 2000000 in
theorem which_c (c0 c1 c2 c3 c4 a : Int) (w : World) (h : ok5 c0 c1 c2 c3 c4) (ha : 0 ≤ a) (ha' : a < 18446744073709551616) : Calls Try.prog 57 #[.agg #[.int .i64 c0, .int .i64 c1, .int .i64 c2, .int .i64 c3, .int .i64 c4], .int .u64 a] w fun e w' => (∃ n : Int, e = .returned (.int .i64 n) ∧ WhichIs c0 c1 c3 a n) ∧ Below w.heap.size w w' := by
  have H := Lib.hid h
  have H0 : 1 ≤ c0 ∧ c0 ≤ 4 ∧ c1 ≤ 65536 ∧ c3 ≤ 65536 := by unfold ok5 at h; omega
  have H0 := Lib.hid H0
  clear h
  go_enter Try.func57, Try.ntmps57
  go_wp2_with (go_at_call 52; refine (reg_p _ _ _ _ _ _ H.out).mono ?_; rintro e w' ⟨g, rfl, hg1, hg2, hR, hB⟩; have HB := Lib.hid (((Below.refl _ _).alloc (Nat.le_refl _) _).trans (hB.mono (by simp))); have HR := Lib.hid hR; clear hR hB)
  refine (holder_c g 5 a c0 c1 c3 _ ha ha' H0.out.1 H0.out.2.1 H0.out.2.2.1 H0.out.2.2.2 hg2 HR).mono ?_
  rintro e w2 ⟨hB2, ⟨k, hk, hin, rfl⟩ | ⟨hn, rfl⟩⟩
  · have HR2 := Lib.hid (HR.out.below hB2 hg2)
    have hs2 := hB2.size
    have HB2 := Lib.hid (HB.out.trans (hB2.mono (by simp at hg1; omega)))
    have HI := Lib.hid hin
    clear hB2 hin
    go_wp2_with (go_at_call 107; refine (index_y g 5 k c0 c1 c3 w2 hk (by omega) HR2).mono ?_; rintro e w' ⟨rfl, hB3⟩)
    have hs := HB2.out.size
    refine bodyPost_ret (v := .int .i64 (k + 1)) (by simp [results, Try.results57, go_sem]) rfl ⟨⟨_, rfl, Or.inl ⟨k, hk, HI.out, rfl⟩⟩, HB2.out.trans (hB3.mono hs)⟩
  · have HR2 := Lib.hid (HR.out.below hB2 hg2)
    have hs2 := hB2.size
    have HB2 := Lib.hid (HB.out.trans (hB2.mono (by simp at hg1; omega)))
    have HI := Lib.hid hn
    clear hB2 hn
    go_wp2_with (go_at_call 107; refine (index_n g 5 c0 c1 c3 w2 (by omega) HR2).mono ?_; rintro e w' ⟨rfl, hB3⟩)
    have hs := HB2.out.size
    refine bodyPost_ret (v := .int .i64 0) (by simp [results, Try.results57, go_sem]) rfl ⟨⟨_, rfl, Or.inr ⟨HI.out, rfl⟩⟩, HB2.out.trans (hB3.mono hs)⟩
set_option maxRecDepth 100000 in
set_option maxHeartbeats 2000000 in
theorem which_n (c0 c1 c2 c3 c4 a : Int) (w : World) (h : ¬ ok5 c0 c1 c2 c3 c4) : Calls Try.prog 57 #[.agg #[.int .i64 c0, .int .i64 c1, .int .i64 c2, .int .i64 c3, .int .i64 c4], .int .u64 a] w fun e w' => e = .returned (.int .i64 0) ∧ Below w.heap.size w w' := by
  have H := Lib.hid h
  clear h
  go_enter Try.func57, Try.ntmps57
  go_wp2_with (go_at_call 52; refine (reg_n _ _ _ _ _ _ H.out).mono ?_; rintro e w' ⟨rfl, rfl⟩)
  refine (holder_z _ _).mono ?_
  rintro e w2 ⟨rfl, hB2⟩
  have HB2 := Lib.hid hB2
  clear hB2
  go_wp2_with (go_at_call 107; refine (index_z w2).mono ?_; rintro e w' ⟨rfl, hB3⟩)
  have hs := HB2.out.size
  simp at hs
  refine bodyPost_ret (v := .int .i64 0) (by simp [results, Try.results57, go_sem]) rfl ⟨rfl, ?_⟩
  exact (((Below.refl _ _).alloc (Nat.le_refl _) _).alloc (by simp) _).alloc (by simp; omega) _ |>.trans (HB2.out.mono (by simp; omega)) |>.trans (hB3.mono (by omega))
theorem RegAt.next {c0 c1 c3 a : Int} {k : Nat} (h : ∀ j, j < k → ¬ inR c0 c1 c3 j a) (g : ¬ inR c0 c1 c3 k a) : ∀ j, j < k + 1 → ¬ inR c0 c1 c3 j a := fun j hj => by
  rcases Nat.lt_or_ge j k with x | x
  · exact h j x
  · obtain rfl : j = k := by omega
    exact g
theorem RegAt.drewN {w : World} {g : Nat} {c0 c1 c3 : Int} (h : RegAt w g c0 c1 c3) (n : Nat) : RegAt (w.drewN n) g c0 c1 c3 := fun j hj => h j hj
set_option maxRecDepth 100000 in
set_option maxHeartbeats 2000000 in
theorem rwhich_c (c0 c1 c2 c3 c4 a : Int) (w : World) (h : ok5 c0 c1 c2 c3 c4) (ha : 0 ≤ a) (ha' : a < 18446744073709551616) : Calls Try.prog 58 #[.agg #[.int .i64 c0, .int .i64 c1, .int .i64 c2, .int .i64 c3, .int .i64 c4], .int .u64 a] w fun e w' => (∃ n : Int, e = .returned (.int .i64 n) ∧ WhichIs c0 c1 c3 a n) ∧ Below w.heap.size w w' := by
  have H := Lib.hid h
  have H0 : 1 ≤ c0 ∧ c0 ≤ 4 ∧ c1 ≤ 65536 ∧ c3 ≤ 65536 := by unfold ok5 at h; omega
  have H0 := Lib.hid H0
  clear h
  go_enter Try.func58, Try.ntmps58
  go_wp2_with (go_at_call 53; refine (rreg_p _ _ _ _ _ _ H.out).mono ?_; rintro e w' ⟨g, rfl, hg1, hg2, hR, hB⟩; have HB := Lib.hid (((Below.refl _ _).alloc (Nat.le_refl _) _).trans (hB.mono (by simp))); have HR := Lib.hid hR; clear hR hB)
  rename_i w1
  go_loopw [4, 6] (fun _ i wr => ∃ k : Nat, k ≤ 5 ∧ Hid (∀ j, j < k → ¬ inR c0 c1 c3 j a) ∧ i = .int .i64 k ∧ Hid (RegAt wr g c0 c1 c3) ∧ Hid (Below w.heap.size w wr)) (fun _ i _ => 5 - (intOf i).toNat)
  case atStart => exact ⟨0, by omega, Lib.hid (fun j hj => by omega), rfl, HR, HB⟩
  case round =>
    obtain ⟨k, hk, HN, rfl, HRr, HBr⟩ := hrel
    by_cases hlt : k < 5
    · obtain ⟨f1, f2, f3, f4⟩ := HRr.out k hlt
      have gj : (k : Int) < 5 := by omega
      have r1 := rb_range k
      have r2 := rs_range c0 c1 c3 k H0.out.1 H0.out.2.1 H0.out.2.2.1 H0.out.2.2.2
      by_cases g1 : rb k ≤ a
      · have d1 : decide (rb k ≤ a) = true := decide_eq_true g1
        by_cases g2 : a - rb k < rs c0 c1 c3 k
        · have d2 : decide (a - rb k < rs c0 c1 c3 k) = true := decide_eq_true g2
          have HI : Hid (inR c0 c1 c3 k a) := Lib.hid ⟨g1, by omega⟩
          go_wp2
          go_quiet (fail)
          go_wp2
          refine bodyPost_ret (v := .int .i64 (k + 1)) (by simp [results, Try.results58, go_sem]) rfl ⟨⟨_, rfl, Or.inl ⟨k, hlt, HI.out, rfl⟩⟩, below_drewN HBr.out _⟩
        · have d2 : decide (a - rb k < rs c0 c1 c3 k) = false := decide_eq_false g2
          have HI : Hid (¬ inR c0 c1 c3 k a) := Lib.hid (fun x => by unfold inR at x; omega)
          go_wp2
          go_quiet (fail)
          go_wp2
          exact ⟨⟨k + 1, by omega, Lib.hid (RegAt.next HN.out HI.out), by simp, Lib.hid (HRr.out.drewN _), Lib.hid (below_drewN HBr.out _)⟩, by simp [intOf]; omega⟩
      · have d1 : decide (rb k ≤ a) = false := decide_eq_false g1
        have HI : Hid (¬ inR c0 c1 c3 k a) := Lib.hid (fun x => by unfold inR at x; omega)
        go_wp2
        go_quiet (fail)
        go_wp2
        exact ⟨⟨k + 1, by omega, Lib.hid (RegAt.next HN.out HI.out), by simp, Lib.hid (HRr.out.drewN _), Lib.hid (below_drewN HBr.out _)⟩, by simp [intOf]; omega⟩
    · obtain rfl : k = 5 := by omega
      go_wp2
      refine bodyPost_ret (v := .int .i64 0) (by simp [results, Try.results58, go_sem]) rfl ⟨⟨_, rfl, Or.inr ⟨HN.out, rfl⟩⟩, HBr.out⟩
set_option maxRecDepth 100000 in
set_option maxHeartbeats 2000000 in
theorem rwhich_n (c0 c1 c2 c3 c4 a : Int) (w : World) (h : ¬ ok5 c0 c1 c2 c3 c4) : Calls Try.prog 58 #[.agg #[.int .i64 c0, .int .i64 c1, .int .i64 c2, .int .i64 c3, .int .i64 c4], .int .u64 a] w fun e w' => e = .returned (.int .i64 0) ∧ Below w.heap.size w w' := by
  have H := Lib.hid h
  clear h
  go_enter Try.func58, Try.ntmps58
  go_wp2_with (go_at_call 53; refine (rreg_n _ _ _ _ _ _ H.out).mono ?_; rintro e w' ⟨rfl, rfl⟩)
  have HB : Hid (Below w.heap.size w (((w.alloc (.cells #[.int .i64 c0, .int .i64 c1, .int .i64 c2, .int .i64 c3, .int .i64 c4] 71)).alloc (.cells #[.int .i64 c0, .int .i64 c1, .int .i64 c2, .int .i64 c3, .int .i64 c4] 71)).alloc (.cells #[.int .i64 c0, .int .i64 c1, .int .i64 c2, .int .i64 c3, .int .i64 c4] 71))) := Lib.hid ((((Below.refl _ _).alloc (Nat.le_refl _) _).alloc (by simp) _).alloc (by simp; omega) _)
  go_loopw [4, 6] (fun _ i wr => i = .int .i64 0 ∧ Hid (Below w.heap.size w wr)) (fun _ i _ => 0)
  case atStart => exact ⟨rfl, HB⟩
  case round =>
    obtain ⟨rfl, HBr⟩ := hrel
    go_wp2
    refine bodyPost_ret (v := .int .i64 0) (by simp [results, Try.results58, go_sem]) rfl ⟨rfl, HBr.out⟩
end Go.Proofs.Ytapcapcbndooiaa
