import Derived.Test.YtjcbhomfggjmhaaRows
import Derived.WalkKit
import Derived.ProofKit
import Derived.OpenShut
import Derived.Deep.QuietTactic
import Derived.BigQuiet
import Derived.Outline
import Derived.WalkSmall
import Derived.WalkLawsBesides
import Derived.WalkSpells
import Derived.BigGuardPart
import Derived.RegionTactic
import Derived.Deep.RegionHeld3
import Derived.Lib.Hide
import Derived.Deep.OwnRows
import Derived.Maps.AppendAt
import Derived.Deep.AppendLies
import Derived.Below
namespace Go.Proofs.Ytjcbhomfggjmhaa.Mm
open Go.ChangeShapes Go.WideShapes Go.ChangeAt Go.RowKit
set_option linter.unusedVariables false
/-- The areas of a memory: n of them in block ab, five cells each. -/
def AreaAt (w : World) (ab n : Nat) (A S : Nat → Nat) (W X : Nat → Bool) (B C : Nat → Nat) : Prop := ∀ j, j < n →
  w.cell? ⟨ab, j * 5, none⟩ = some (.int .u64 (A j : Nat)) ∧ w.cell? ⟨ab, j * 5 + 1, none⟩ = some (.int .u64 (S j : Nat)) ∧ w.cell? ⟨ab, j * 5 + 2, none⟩ = some (.bool (W j)) ∧ w.cell? ⟨ab, j * 5 + 3, none⟩ = some (.bool (X j)) ∧ w.cell? ⟨ab, j * 5 + 4, none⟩ = some (.slice (some ⟨B j, 0, none⟩) (S j) (C j))
def inA (A S : Nat → Nat) (j a : Nat) : Prop := A j ≤ a ∧ a < A j + S j
def small (A S : Nat → Nat) (n : Nat) : Prop := n ≤ 16 ∧ ∀ j, j < n → 0 < S j ∧ S j ≤ 16777216 ∧ A j + S j ≤ 281474976710656
theorem AreaAt.drewN {w : World} {ab n : Nat} {A S : Nat → Nat} {W X : Nat → Bool} {B C : Nat → Nat} (h : AreaAt w ab n A S W X B C) (q : Nat) : AreaAt (w.drewN q) ab n A S W X B C := fun j hj => h j hj
theorem wrap_far (a b s : Nat) (h : a < b) (hb : b + s ≤ 281474976710656) : ∃ t : Int, IntKind.u64.wrap ((a : Int) - (b : Int)) = t ∧ (s : Int) ≤ t := ⟨_, rfl, by rw [IntKind.wrap_u64]; omega⟩
theorem wrap_near (a b : Nat) (h : b ≤ a) (ha : a < 18446744073709551616) : ∃ t : Int, IntKind.u64.wrap ((a : Int) - (b : Int)) = t ∧ t ≤ ((a - b : Nat) : Int) ∧ ((a - b : Nat) : Int) ≤ t := ⟨_, rfl, by rw [IntKind.wrap_u64]; omega, by rw [IntKind.wrap_u64]; omega⟩
set_option maxRecDepth 100000 in
set_option maxHeartbeats 2000000 in
theorem find_y_ (ab n cap k a : Nat) (A S : Nat → Nat) (W X : Nat → Bool) (B C : Nat → Nat) (w : World) (hs : small A S n) (hk : k < n) (ha : a < 18446744073709551616) (hpre : ∀ j, j < k → ¬ inA A S j a) (hin : inA A S k a) (HA : Hid (AreaAt w ab n A S W X B C)) :
    Calls Try.prog 53 #[.slice (some ⟨ab, 0, none⟩) n cap, .int .u64 a] w fun e w' => e = .returned (.pointer (some ⟨ab, k * 5, none⟩)) ∧ ∃ q, w' = w.drewN q := by
  have HP := Lib.hid hpre
  have HI := Lib.hid hin
  have HS := Lib.hid hs.2
  have hn := hs.1
  clear hpre hin hs
  go_enter Try.func53, Try.ntmps53
  go_wp2
  go_loopw [5, 8] (fun _ i wr => ∃ j : Nat, j ≤ k ∧ i = .int .i64 j ∧ Hid (∃ q, wr = w.drewN q)) (fun _ i _ => k + 1 - (intOf i).toNat)
  case atStart => exact ⟨0, by omega, rfl, Lib.hid ⟨0, rfl⟩⟩
  case round =>
    obtain ⟨j, hj, rfl, HQ⟩ := hrel
    obtain ⟨q, rfl⟩ := HQ.out
    obtain ⟨f1, f2, f3, f4, f5⟩ := HA.out j (by omega)
    clear f3 f4 f5
    have gj : (j : Int) < n := by omega
    obtain ⟨s0, s1, s2⟩ := HS.out j (by omega)
    by_cases hjk : j < k
    · have hno := HP.out j hjk
      by_cases hlt : a < A j
      · obtain ⟨t, ht, hst⟩ := wrap_far a (A j) (S j) hlt s2
        have d1 : decide (t < (S j : Int)) = false := decide_eq_false (by omega)
        clear hno
        go_wp2
        go_quiet (fail)
        go_wp2
        exact ⟨⟨j + 1, by omega, by simp, Lib.hid ⟨_, rfl⟩⟩, by simp [intOf]; omega⟩
      · have hge : S j ≤ a - A j := by unfold inA at hno; omega
        obtain ⟨t, ht, t1, t2⟩ := wrap_near a (A j) (by omega) ha
        have d1 : decide (t < (S j : Int)) = false := decide_eq_false (by omega)
        clear hno
        go_wp2
        go_quiet (fail)
        go_wp2
        exact ⟨⟨j + 1, by omega, by simp, Lib.hid ⟨_, rfl⟩⟩, by simp [intOf]; omega⟩
    · obtain rfl : j = k := by omega
      have hi2 : A j ≤ a ∧ a < A j + S j := HI.out
      obtain ⟨t, ht, t1, t2⟩ := wrap_near a (A j) (by omega) ha
      have d1 : decide (t < (S j : Int)) = true := decide_eq_true (by omega)
      have d2 : decide (A j ≤ a) = true := decide_eq_true (by omega)
      clear hi2
      go_wp2
      go_quiet (fail)
      go_wp2
      go_ret
      exact ⟨rfl, _, rfl⟩
set_option maxRecDepth 100000 in
set_option maxHeartbeats 2000000 in
theorem find_n_ (ab n cap a : Nat) (A S : Nat → Nat) (W X : Nat → Bool) (B C : Nat → Nat) (w : World) (hs : small A S n) (ha : a < 18446744073709551616) (hpre : ∀ j, j < n → ¬ inA A S j a) (HA : Hid (AreaAt w ab n A S W X B C)) :
    Calls Try.prog 53 #[.slice (some ⟨ab, 0, none⟩) n cap, .int .u64 a] w fun e w' => e = .returned (.pointer none) ∧ ∃ q, w' = w.drewN q := by
  have HP := Lib.hid hpre
  have HS := Lib.hid hs.2
  have hn := hs.1
  clear hpre hs
  go_enter Try.func53, Try.ntmps53
  go_wp2
  go_loopw [5, 8] (fun _ i wr => ∃ j : Nat, j ≤ n ∧ i = .int .i64 j ∧ Hid (∃ q, wr = w.drewN q)) (fun _ i _ => n + 1 - (intOf i).toNat)
  case atStart => exact ⟨0, by omega, rfl, Lib.hid ⟨0, rfl⟩⟩
  case round =>
    obtain ⟨j, hj, rfl, HQ⟩ := hrel
    obtain ⟨q, rfl⟩ := HQ.out
    by_cases hjk : j < n
    · obtain ⟨f1, f2, f3, f4, f5⟩ := HA.out j (by omega)
      clear f3 f4 f5
      have gj : (j : Int) < n := by omega
      obtain ⟨s0, s1, s2⟩ := HS.out j (by omega)
      have hno := HP.out j hjk
      by_cases hlt : a < A j
      · obtain ⟨t, ht, hst⟩ := wrap_far a (A j) (S j) hlt s2
        have d1 : decide (t < (S j : Int)) = false := decide_eq_false (by omega)
        clear hno
        go_wp2
        go_quiet (fail)
        go_wp2
        exact ⟨⟨j + 1, by omega, by simp, Lib.hid ⟨_, rfl⟩⟩, by simp [intOf]; omega⟩
      · have hge : S j ≤ a - A j := by unfold inA at hno; omega
        obtain ⟨t, ht, t1, t2⟩ := wrap_near a (A j) (by omega) ha
        have d1 : decide (t < (S j : Int)) = false := decide_eq_false (by omega)
        clear hno
        go_wp2
        go_quiet (fail)
        go_wp2
        exact ⟨⟨j + 1, by omega, by simp, Lib.hid ⟨_, rfl⟩⟩, by simp [intOf]; omega⟩
    · obtain rfl : j = n := by omega
      go_wp2
      go_ret
      exact ⟨rfl, _, rfl⟩
/-! ### stretch -/
set_option maxRecDepth 100000 in
set_option maxHeartbeats 2000000 in
theorem stretch_y (ab n cap k o m a : Nat) (A S : Nat → Nat) (W X : Nat → Bool) (B C : Nat → Nat) (w : World) (hs : small A S n) (hk : k < n) (hpre : ∀ j, j < k → ¬ inA A S j a) (HO : Hid (a = A k + o)) (hm : 1 ≤ m) (hc : S k ≤ C k) (ho : o + m ≤ S k) (HA : Hid (AreaAt w ab n A S W X B C)) :
    Calls Try.prog 25 #[.slice (some ⟨ab, 0, none⟩) n cap, .int .u64 a, .int .i64 m] w fun e w' => e = .returned (.tuple #[.slice (some ⟨B k, o, none⟩) m m, .bool true]) ∧ ∃ q, w' = w.drewN q := by
  have HP := Lib.hid hpre
  have HS := Lib.hid hs
  obtain ⟨s0, s1, s2⟩ := hs.2 k hk
  have ha : a < 18446744073709551616 := by have := HO.out; omega
  have HI : Hid (inA A S k a) := Lib.hid (by have := HO.out; unfold inA; omega)
  clear hpre hs
  go_enter Try.func25, Try.ntmps25
  go_wp2_with (go_at_call 53; refine (find_y_ ab n cap k a A S W X B C _ HS.out hk ha HP.out HI.out HA).mono ?_; rintro e w' ⟨rfl, q, rfl⟩)
  obtain ⟨f1, f2, f3, f4, f5⟩ := HA.out k hk
  clear f3 f4
  have gc : (o : Int) + m ≤ (C k : Int) := by omega
  have ht : IntKind.u64.wrap ((a : Int) - (A k : Int)) = (o : Int) := by have := HO.out; rw [IntKind.wrap_u64]; omega
  have ht2 : IntKind.u64.wrap ((S k : Int) - (o : Int)) = ((S k - o : Nat) : Int) := by rw [IntKind.wrap_u64]; omega
  have d1 : decide ((S k - o : Nat) < m) = false := decide_eq_false (by omega)
  have d0 : decide ((m : Int) < 0) = false := decide_eq_false (by omega)
  go_quiet (fail)
  go_wp2
  refine bodyPost_ret (v := .tuple #[.slice (some ⟨B k, o, none⟩) m m, .bool true]) (by simp [results, Try.results25, go_sem]) rfl ⟨rfl, _, rfl⟩
set_option maxRecDepth 100000 in
set_option maxHeartbeats 2000000 in
theorem stretch_z (ab n cap k o a : Nat) (A S : Nat → Nat) (W X : Nat → Bool) (B C : Nat → Nat) (w : World) (hs : small A S n) (hk : k < n) (hpre : ∀ j, j < k → ¬ inA A S j a) (HO : Hid (a = A k + o)) (hm : o < S k) (hc : S k ≤ C k) (HA : Hid (AreaAt w ab n A S W X B C)) :
    Calls Try.prog 25 #[.slice (some ⟨ab, 0, none⟩) n cap, .int .u64 a, .int .i64 0] w fun e w' => e = .returned (.tuple #[.slice (some ⟨B k, 0, none⟩) 0 0, .bool true]) ∧ ∃ q, w' = w.drewN q := by
  have HP := Lib.hid hpre
  have HS := Lib.hid hs
  obtain ⟨s0, s1, s2⟩ := hs.2 k hk
  have ha : a < 18446744073709551616 := by have := HO.out; omega
  have HI : Hid (inA A S k a) := Lib.hid (by have := HO.out; unfold inA; omega)
  clear hpre hs
  go_enter Try.func25, Try.ntmps25
  go_wp2_with (go_at_call 53; refine (find_y_ ab n cap k a A S W X B C _ HS.out hk ha HP.out HI.out HA).mono ?_; rintro e w' ⟨rfl, q, rfl⟩)
  obtain ⟨f1, f2, f3, f4, f5⟩ := HA.out k hk
  clear f3 f4
  have gc : (o : Int) ≤ (C k : Int) := by omega
  have ht : IntKind.u64.wrap ((a : Int) - (A k : Int)) = (o : Int) := by have := HO.out; rw [IntKind.wrap_u64]; omega
  have ht2 : IntKind.u64.wrap ((S k : Int) - (o : Int)) = ((S k - o : Nat) : Int) := by rw [IntKind.wrap_u64]; omega
  have d1 : decide (((S k - o : Nat) : Int) < 0) = false := decide_eq_false (by omega)
  go_quiet (fail)
  go_wp2
  refine bodyPost_ret (v := .tuple #[.slice (some ⟨B k, 0, none⟩) 0 0, .bool true]) (by simp [results, Try.results25, go_sem]) rfl ⟨rfl, _, rfl⟩
set_option maxRecDepth 100000 in
set_option maxHeartbeats 2000000 in
theorem stretch_s (ab n cap k o a : Nat) (m : Int) (A S : Nat → Nat) (W X : Nat → Bool) (B C : Nat → Nat) (w : World) (hs : small A S n) (hk : k < n) (hpre : ∀ j, j < k → ¬ inA A S j a) (HO : Hid (a = A k + o)) (hm : o < S k) (ho : m < 0 ∨ (S k : Int) < o + m) (hm2 : m ≤ 9223372036854775807) (HA : Hid (AreaAt w ab n A S W X B C)) :
    Calls Try.prog 25 #[.slice (some ⟨ab, 0, none⟩) n cap, .int .u64 a, .int .i64 m] w fun e w' => e = .returned (.tuple #[.slice none 0 0, .bool false]) ∧ ∃ q, w' = w.drewN q := by
  have HP := Lib.hid hpre
  have HS := Lib.hid hs
  obtain ⟨s0, s1, s2⟩ := hs.2 k hk
  have ha : a < 18446744073709551616 := by have := HO.out; omega
  have HI : Hid (inA A S k a) := Lib.hid (by have := HO.out; unfold inA; omega)
  clear hpre hs
  by_cases hneg : m < 0
  · have d0 : decide (m < 0) = true := decide_eq_true hneg
    go_enter Try.func25, Try.ntmps25
    go_wp2_with (go_at_call 53; refine (find_y_ ab n cap k a A S W X B C _ HS.out hk ha HP.out HI.out HA).mono ?_; rintro e w' ⟨rfl, q, rfl⟩)
    obtain ⟨f1, f2, f3, f4, f5⟩ := HA.out k hk
    clear f3 f4 f5
    go_quiet (fail)
    go_wp2
    refine bodyPost_ret (v := .tuple #[.slice none 0 0, .bool false]) (by simp [results, Try.results25, go_sem]) rfl ⟨rfl, _, World.drewN_drewN _ _ _⟩
  · obtain ⟨M, rfl⟩ := Int.eq_ofNat_of_zero_le (show 0 ≤ m by omega)
    have hM : S k < o + M := by omega
    have ht : IntKind.u64.wrap ((a : Int) - (A k : Int)) = (o : Int) := by have := HO.out; rw [IntKind.wrap_u64]; omega
    have ht2 : IntKind.u64.wrap ((S k : Int) - (o : Int)) = ((S k - o : Nat) : Int) := by rw [IntKind.wrap_u64]; omega
    have htM : IntKind.u64.wrap (M : Int) = M := by rw [IntKind.wrap_u64]; omega
    have d1 : decide (((S k - o : Nat) : Int) < (M : Int)) = true := decide_eq_true (by omega)
    have d0 : decide ((M : Int) < 0) = false := decide_eq_false (by omega)
    clear ho hneg
    go_enter Try.func25, Try.ntmps25
    go_wp2_with (go_at_call 53; refine (find_y_ ab n cap k a A S W X B C _ HS.out hk ha HP.out HI.out HA).mono ?_; rintro e w' ⟨rfl, q, rfl⟩)
    obtain ⟨f1, f2, f3, f4, f5⟩ := HA.out k hk
    clear f3 f4 f5
    go_quiet (fail)
    go_wp2
    refine bodyPost_ret (v := .tuple #[.slice none 0 0, .bool false]) (by simp [results, Try.results25, go_sem]) rfl ⟨rfl, _, World.drewN_drewN _ _ _⟩
set_option maxRecDepth 100000 in
set_option maxHeartbeats 2000000 in
theorem stretch_n (ab n cap a : Nat) (m : Int) (A S : Nat → Nat) (W X : Nat → Bool) (B C : Nat → Nat) (w : World) (hs : small A S n) (ha : a < 18446744073709551616) (hpre : ∀ j, j < n → ¬ inA A S j a) (HA : Hid (AreaAt w ab n A S W X B C)) :
    Calls Try.prog 25 #[.slice (some ⟨ab, 0, none⟩) n cap, .int .u64 a, .int .i64 m] w fun e w' => e = .returned (.tuple #[.slice none 0 0, .bool false]) ∧ ∃ q, w' = w.drewN q := by
  have HP := Lib.hid hpre
  have HS := Lib.hid hs
  clear hpre hs
  go_enter Try.func25, Try.ntmps25
  go_wp2_with (go_at_call 53; refine (find_n_ ab n cap a A S W X B C _ HS.out ha HP.out HA).mono ?_; rintro e w' ⟨rfl, q, rfl⟩)
  go_quiet (fail)
  go_wp2
  refine bodyPost_ret (v := .tuple #[.slice none 0 0, .bool false]) (by simp [results, Try.results25, go_sem]) rfl ⟨rfl, _, World.drewN_drewN _ _ _⟩
end Go.Proofs.Ytjcbhomfggjmhaa.Mm
