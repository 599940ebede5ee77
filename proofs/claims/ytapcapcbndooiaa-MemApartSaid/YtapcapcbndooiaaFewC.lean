import Derived.Test.YtapcapcbndooiaaRows
import Derived.WalkKit
import Derived.ProofKit
import Derived.OpenShut
import Derived.Deep.QuietTactic
import Derived.BigQuiet
import Derived.Outline
import Derived.WalkSmall
import Derived.WalkLawsBesides
import Derived.WalkSpells
import Derived.BigGuardPart
import Derived.RegionTactic
import Derived.Deep.RegionHeld3
import Derived.Lib.Hide
import Derived.Deep.OwnRows
import Derived.Maps.AppendAt
import Derived.Deep.AppendLies
import Derived.Below
import Derived.Deep.RegionLaw
import Derived.Test.YtapcapcbndooiaaCloneG
import Derived.Test.YtapcapcbndooiaaKnownM
namespace Go.Proofs.Ytapcapcbndooiaa
open Go.ChangeShapes Go.WideShapes Go.ChangeAt Go.RowKit
set_option linter.unusedVariables false
/-! ### A memory without regions -/
set_option maxRecDepth 100000 in
theorem find_0m (a : Nat) (w : World) : Calls Try.prog 99 #[.slice none 0 0, .int .u64 a] w fun e w' => e = .returned (.pointer none) ∧ ∃ q, w' = w.drewN q := by
  go_enter Try.func99, Try.ntmps99
  go_wp2
  go_loopw [5, 8] (fun _ i wr => i = .int .i64 0 ∧ wr = w) (fun _ i _ => 0)
  case atStart => exact ⟨rfl, rfl⟩
  case round =>
    obtain ⟨rfl, rfl⟩ := hrel
    go_wp2
    go_ret
    exact ⟨rfl, 0, rfl⟩
set_option maxRecDepth 100000 in
theorem stretch_0 (a m : Nat) (w : World) : Calls Try.prog 100 #[.slice none 0 0, .int .u64 a, .int .i64 m] w fun e w' => e = .returned (.tuple #[.slice none 0 0, .bool false]) ∧ ∃ q, w' = w.drewN q := by
  go_enter Try.func100, Try.ntmps100
  go_wp2_with (go_at_call 99; refine (find_0m a _).mono ?_; rintro e w' ⟨rfl, q, rfl⟩)
  go_quiet (fail)
  go_wp2
  refine bodyPost_ret (v := .tuple #[.slice none 0 0, .bool false]) (by simp [results, Try.results100, go_sem]) rfl ⟨rfl, _, World.drewN_drewN _ _ _⟩
set_option maxRecDepth 100000 in
theorem byte_0 (mb a : Nat) (w : World) (hc : w.cell? ⟨mb, 0, none⟩ = some (.slice none 0 0)) : Calls Try.prog 39 #[.pointer (some ⟨mb, 0, none⟩), .int .u64 a] w fun e w' => e = .returned (.tuple #[.int .u8 0, .int .i64 8]) ∧ ∃ q, w' = w.drewN q := by
  go_enter Try.func39, Try.ntmps39
  go_wp2_with (go_at_call 100; refine (stretch_0 a 1 _).mono ?_; rintro e w' ⟨rfl, q, rfl⟩)
  refine bodyPost_ret (v := .tuple #[.int .u8 0, .int .i64 8]) (by simp [results, Try.results39, go_sem]) rfl ⟨rfl, _, rfl⟩
set_option maxRecDepth 100000 in
theorem write_0 (mb a v : Nat) (w : World) (hc : w.cell? ⟨mb, 0, none⟩ = some (.slice none 0 0)) : Calls Try.prog 38 #[.pointer (some ⟨mb, 0, none⟩), .int .u64 a, .int .u64 v] w fun e w' => e = .returned (.int .i64 8) ∧ ∃ q, w' = w.drewN q := by
  go_enter Try.func38, Try.ntmps38
  go_wp2_with (go_at_call 99; refine (find_0m a _).mono ?_; rintro e w' ⟨rfl, q, rfl⟩)
  refine bodyPost_ret (v := .int .i64 8) (by simp [results, Try.results38, go_sem]) rfl ⟨rfl, _, rfl⟩
/-! ### Write that is refused -/
set_option maxRecDepth 100000 in
theorem write_n (mb ab n cap a v : Nat) (A S : Nat → Nat) (W X : Nat → Bool) (B : Nat → Nat) (w : World) (ha : a < 18446744073709551616) (hpre : ∀ j, j < n → ¬ inA A S j a) (HM : Hid (MemAt w mb ab n cap A S W X B)) :
    Calls Try.prog 38 #[.pointer (some ⟨mb, 0, none⟩), .int .u64 a, .int .u64 v] w fun e w' => e = .returned (.int .i64 8) ∧ ∃ q, w' = w.drewN q := by
  have HP := Lib.hid hpre
  have hcm := HM.out.2.1
  have HA := Lib.hid HM.out.2.2
  clear hpre
  go_enter Try.func38, Try.ntmps38
  go_wp2_with (go_at_call 99; refine (find_n_ ab n cap a A S W X B _ HM.out.1 ha HP.out HA).mono ?_; rintro e w' ⟨rfl, q, rfl⟩)
  refine bodyPost_ret (v := .int .i64 8) (by simp [results, Try.results38, go_sem]) rfl ⟨rfl, _, rfl⟩
set_option maxRecDepth 100000 in
theorem write_s (mb ab n cap k a v : Nat) (A S : Nat → Nat) (W X : Nat → Bool) (B : Nat → Nat) (w : World) (hk : k < n) (ha : a < 18446744073709551616) (hpre : ∀ j, j < k → ¬ inA A S j a) (hin : inA A S k a) (hb : a % 8 ≠ 0 ∨ W k = false) (HM : Hid (MemAt w mb ab n cap A S W X B)) :
    Calls Try.prog 38 #[.pointer (some ⟨mb, 0, none⟩), .int .u64 a, .int .u64 v] w fun e w' => e = .returned (.int .i64 8) ∧ ∃ q, w' = w.drewN q := by
  have HP := Lib.hid hpre
  have HI := Lib.hid hin
  have hcm := HM.out.2.1
  have HA := Lib.hid HM.out.2.2
  obtain ⟨f1, f2, f3, f4, f5⟩ := HA.out k hk
  clear hpre hin f1 f2 f4 f5
  by_cases h8 : a % 8 = 0
  · have hd : (a : Int) % 8 = 0 := by omega
    have hw : W k = false := by rcases hb with h | h; exact absurd h8 h; exact h
    rw [hw] at f3
    clear hb hw h8
    go_enter Try.func38, Try.ntmps38
    go_wp2_with (go_at_call 99; refine (find_y_ ab n cap k a A S W X B _ HM.out.1 hk ha HP.out HI.out HA).mono ?_; rintro e w' ⟨rfl, q, rfl⟩)
    refine bodyPost_ret (v := .int .i64 8) (by simp [results, Try.results38, go_sem]) rfl ⟨rfl, _, rfl⟩
  · have hd : ¬ (a : Int) % 8 = 0 := by omega
    clear hb h8
    go_enter Try.func38, Try.ntmps38
    go_wp2_with (go_at_call 99; refine (find_y_ ab n cap k a A S W X B _ HM.out.1 hk ha HP.out HI.out HA).mono ?_; rintro e w' ⟨rfl, q, rfl⟩)
    refine bodyPost_ret (v := .int .i64 8) (by simp [results, Try.results38, go_sem]) rfl ⟨rfl, _, rfl⟩
/-! ### few -/
def SomeB (w : World) (e : Ending) (w' : World) : Prop := ∃ b : Bool, e = .returned (.bool b) ∧ w = w'
set_option maxRecDepth 100000 in
set_option maxHeartbeats 2000000 in
theorem few_c (b off n cap : Nat) (A S : Nat → Nat) (W X : Nat → Bool) (w : World) (hn : n ≤ maxLen) (HR : Hid (SrcAt w b off n A S W X)) :
    Calls Try.prog 41 #[.slice (some ⟨b, off, none⟩) n cap, .slice none 0 0] w (SomeB w) := by
  unfold maxLen at hn
  go_enter Try.func41, Try.ntmps41
  go_wp2
  go_loop [5, 6] (fun s i => ∃ (j : Nat) (t : Int), j ≤ n ∧ i = .int .i64 j ∧ s = .int .u64 t) (fun _ i => n + 1 - (intOf i).toNat)
  case atStart => exact ⟨0, 0, by omega, rfl, rfl⟩
  case round =>
    obtain ⟨j, t, hj, rfl, rfl⟩ := hrel
    by_cases hlt : j < n
    · have f2 : w.cell? ⟨b, off + j * 4 + 1, none⟩ = some (.int .u64 (S j : Nat)) := by
        have := HR.out (j * 4 + 1) (by omega)
        rw [show off + (j * 4 + 1) = off + j * 4 + 1 by omega] at this
        rw [this]; unfold regCell; rw [if_neg (by omega), if_pos (by omega), show (j * 4 + 1) / 4 = j by omega]
      have gj : (j : Int) < n := by omega
      by_cases h1 : 1048576 < S j
      · have d1 : decide ((1048576 : Int) < (S j : Int)) = true := decide_eq_true (by omega)
        have d1n : decide (1048576 < S j) = true := decide_eq_true h1
        by_cases h2 : S j ≤ 16777216
        · have d2 : decide ((S j : Int) ≤ 16777216) = true := decide_eq_true (by omega)
          have d2n : decide (S j ≤ 16777216) = true := decide_eq_true h2
          go_wp2
          go_ret
          exact ⟨_, rfl, rfl⟩
        · have d2 : decide ((S j : Int) ≤ 16777216) = false := decide_eq_false (by omega)
          have d2n : decide (S j ≤ 16777216) = false := decide_eq_false h2
          go_wp2
          exact ⟨⟨j + 1, _, by omega, by simp, rfl⟩, by simp [intOf]; omega⟩
      · have d1 : decide ((1048576 : Int) < (S j : Int)) = false := decide_eq_false (by omega)
        have d1n : decide (1048576 < S j) = false := decide_eq_false h1
        go_wp2
        exact ⟨⟨j + 1, _, by omega, by simp, rfl⟩, by simp [intOf]; omega⟩
    · obtain rfl : j = n := by omega
      go_wp2
      go_loop [7, 8] (fun k i => k = .int .i64 0 ∧ i = .int .i64 0) (fun _ _ => 0)
      case atStart => exact ⟨rfl, rfl⟩
      case round =>
        obtain ⟨rfl, rfl⟩ := hrel
        by_cases h1 : (j : Int) ≤ 20
        · have d1 : decide ((j : Int) ≤ 20) = true := decide_eq_true h1
          by_cases h2 : t ≤ 1048576
          · have d2 : decide (t ≤ 1048576) = true := decide_eq_true h2
            go_wp2
            go_ret
            exact ⟨_, rfl, rfl⟩
          · have d2 : decide (t ≤ 1048576) = false := decide_eq_false h2
            go_wp2
            go_ret
            exact ⟨_, rfl, rfl⟩
        · have d1 : decide ((j : Int) ≤ 20) = false := decide_eq_false h1
          go_wp2
          go_ret
          exact ⟨_, rfl, rfl⟩
set_option maxRecDepth 100000 in
set_option maxHeartbeats 2000000 in
theorem few_0 (a : Option Addr) (cap : Nat) (w : World) : Calls Try.prog 41 #[.slice a 0 cap, .slice none 0 0] w (SomeB w) := by
  go_enter Try.func41, Try.ntmps41
  go_wp2
  go_loop [5, 6] (fun s i => i = .int .i64 0 ∧ s = .int .u64 0) (fun _ i => 0)
  case atStart => exact ⟨rfl, rfl⟩
  case round =>
    obtain ⟨rfl, rfl⟩ := hrel
    go_wp2
    go_loop [7, 8] (fun k i => k = .int .i64 0 ∧ i = .int .i64 0) (fun _ _ => 0)
    case atStart => exact ⟨rfl, rfl⟩
    case round =>
      obtain ⟨rfl, rfl⟩ := hrel
      go_wp2
      go_ret
      exact ⟨_, rfl, rfl⟩
end Go.Proofs.Ytapcapcbndooiaa
