import Derived.Test.YtpiafgmncfibmaaRq
import Derived.Test.YtpiafgmncfibmaaRows
import Derived.WalkKit
import Derived.ProofKit
import Derived.OpenShut
import Derived.Deep.QuietTactic
import Derived.BigQuiet
import Derived.Outline
import Derived.WalkSmall
import Derived.WalkLawsBesides
import Derived.WalkSpells
import Derived.BigGuardPart
import Derived.RegionTactic
import Derived.Deep.RegionHeld3
import Derived.Lib.Hide
import Derived.Deep.MidRow
import Derived.Below
import Derived.Deep.RegionWith
import Derived.Deep.OwnRows
import Derived.Deep.AppendLies
namespace Go.Proofs.Ytpiafgmncfibmaa
open Go.ChangeShapes Go.WideShapes Go.ChangeAt Go.RowKit
set_option linter.unusedVariables false

set_option maxHeartbeats 1000000 in
theorem eq55_c (a : Option Addr) (n c : Nat) (a' : Option Addr) (m c' : Nat) (F G : Nat → Int) (w : World) (hn : n ≤ Big) (hm : m ≤ Big) (hr : Row1 w a n (fun i => .int .i64 (F i))) (hr' : Row1 w a' m (fun i => .int .i64 (G i))) (b : Bool) (hb : b = true ↔ n = m ∧ ∀ i, i < n → F i = G i) :
    Calls Try.prog 55 #[.slice a n c, .slice a' m c'] w fun e w' => e = .returned (.bool b) ∧ Below w.heap.size w w' := by
  unfold Big at hn hm
  have HR := Lib.hid hr
  have HR' := Lib.hid hr'
  have HB := Lib.hid hb
  clear hr hr' hb
  by_cases hnm : n = m
  case neg =>
    obtain rfl : b = false := bool_false_of_ne fun h => hnm (HB.out.1 h).1
    have d : ((n : Int) != (m : Int)) = true := by simpa using (show ¬ (n : Int) = (m : Int) by omega)
    go_enter Try.func55, Try.ntmps55
    go_wp2
    go_ret
    exact ⟨rfl, Below.refl _ _⟩
  subst hnm
  have HB2 : Hid (b = true ↔ ∀ i, i < n → F i = G i) := Lib.hid ⟨fun h => (HB.out.1 h).2, fun h => HB.out.2 ⟨rfl, h⟩⟩
  clear HB
  go_enter Try.func55, Try.ntmps55
  go_wp2
  go_loopw [13, 5] (fun i _ wr => ∃ j : Nat, j ≤ n ∧ i = .int .i64 j ∧ Hid ((∀ k, k < j → F k = G k) ∧ Below w.heap.size w wr)) (fun i _ _ => n - (intOf i).toNat)
  case atStart => exact ⟨0, by omega, rfl, Lib.hid ⟨fun k hk => absurd hk (Nat.not_lt_zero k), Below.refl _ _⟩⟩
  case round =>
    obtain ⟨j, hj, rfl, HQ⟩ := hrel
    by_cases hjn : j < n
    · have gj : (j : Int) < n := by omega
      rcases Row1.kept HR.out (Kept.of HQ.out.2) with h0 | ⟨x, o, rfl, hx, hc⟩
      · exact absurd h0 (by omega)
      have c0 := hc j hjn; clear hc
      rcases Row1.kept HR'.out (Kept.of HQ.out.2) with h0 | ⟨x', o', rfl, hx', hc⟩
      · exact absurd h0 (by omega)
      have c1 := hc j hjn; clear hc
      by_cases heq : F j = G j
      · have d : (F j != G j) = false := by simpa using heq
        have HE := Lib.hid heq
        clear heq
        go_wp2
        go_quiet (fail)
        go_wp2
        exact ⟨⟨j + 1, by omega, by go_num, Lib.hid ⟨forall_snoc HQ.out.1 HE.out, below_drewN HQ.out.2 _⟩⟩, by simp [intOf]; omega⟩
      · have d : (F j != G j) = true := by simpa using heq
        have HE := Lib.hid heq
        clear heq
        obtain rfl : b = false := bool_false_of_ne fun h => HE.out (HB2.out.1 h j hjn)
        go_wp2
        go_quiet (fail)
        go_wp2
        go_ret
        exact ⟨rfl, below_drewN HQ.out.2 _⟩
    · obtain rfl : j = n := by omega
      obtain rfl : b = true := HB2.out.2 HQ.out.1
      go_wp2
      go_ret
      exact ⟨rfl, HQ.out.2⟩

set_option maxHeartbeats 1000000 in
theorem eq85_c (a : Option Addr) (n c : Nat) (a' : Option Addr) (m c' : Nat) (F G : Nat → Int) (w : World) (hn : n ≤ Big) (hm : m ≤ Big) (hr : Row1 w a n (fun i => .int .i64 (F i))) (hr' : Row1 w a' m (fun i => .int .i64 (G i))) (b : Bool) (hb : b = true ↔ n = m ∧ ∀ i, i < n → F i = G i) :
    Calls Try.prog 85 #[.slice a n c, .slice a' m c'] w fun e w' => e = .returned (.bool b) ∧ Below w.heap.size w w' := by
  unfold Big at hn hm
  have HR := Lib.hid hr
  have HR' := Lib.hid hr'
  have HB := Lib.hid hb
  clear hr hr' hb
  by_cases hnm : n = m
  case neg =>
    obtain rfl : b = false := bool_false_of_ne fun h => hnm (HB.out.1 h).1
    have d : ((n : Int) != (m : Int)) = true := by simpa using (show ¬ (n : Int) = (m : Int) by omega)
    go_enter Try.func85, Try.ntmps85
    go_wp2
    go_ret
    exact ⟨rfl, Below.refl _ _⟩
  subst hnm
  have HB2 : Hid (b = true ↔ ∀ i, i < n → F i = G i) := Lib.hid ⟨fun h => (HB.out.1 h).2, fun h => HB.out.2 ⟨rfl, h⟩⟩
  clear HB
  go_enter Try.func85, Try.ntmps85
  go_wp2
  go_loopw [13, 5] (fun i _ wr => ∃ j : Nat, j ≤ n ∧ i = .int .i64 j ∧ Hid ((∀ k, k < j → F k = G k) ∧ Below w.heap.size w wr)) (fun i _ _ => n - (intOf i).toNat)
  case atStart => exact ⟨0, by omega, rfl, Lib.hid ⟨fun k hk => absurd hk (Nat.not_lt_zero k), Below.refl _ _⟩⟩
  case round =>
    obtain ⟨j, hj, rfl, HQ⟩ := hrel
    by_cases hjn : j < n
    · have gj : (j : Int) < n := by omega
      rcases Row1.kept HR.out (Kept.of HQ.out.2) with h0 | ⟨x, o, rfl, hx, hc⟩
      · exact absurd h0 (by omega)
      have c0 := hc j hjn; clear hc
      rcases Row1.kept HR'.out (Kept.of HQ.out.2) with h0 | ⟨x', o', rfl, hx', hc⟩
      · exact absurd h0 (by omega)
      have c1 := hc j hjn; clear hc
      by_cases heq : F j = G j
      · have d : (F j != G j) = false := by simpa using heq
        have HE := Lib.hid heq
        clear heq
        go_wp2
        go_quiet (fail)
        go_wp2
        exact ⟨⟨j + 1, by omega, by go_num, Lib.hid ⟨forall_snoc HQ.out.1 HE.out, below_drewN HQ.out.2 _⟩⟩, by simp [intOf]; omega⟩
      · have d : (F j != G j) = true := by simpa using heq
        have HE := Lib.hid heq
        clear heq
        obtain rfl : b = false := bool_false_of_ne fun h => HE.out (HB2.out.1 h j hjn)
        go_wp2
        go_quiet (fail)
        go_wp2
        go_ret
        exact ⟨rfl, below_drewN HQ.out.2 _⟩
    · obtain rfl : j = n := by omega
      obtain rfl : b = true := HB2.out.2 HQ.out.1
      go_wp2
      go_ret
      exact ⟨rfl, HQ.out.2⟩

set_option maxHeartbeats 1000000 in
theorem eq86_c (a : Option Addr) (n c : Nat) (a' : Option Addr) (m c' : Nat) (F G : Nat → Int) (w : World) (hn : n ≤ Big) (hm : m ≤ Big) (hr : Row1 w a n (fun i => .int .u8 (F i))) (hr' : Row1 w a' m (fun i => .int .u8 (G i))) (b : Bool) (hb : b = true ↔ n = m ∧ ∀ i, i < n → F i = G i) :
    Calls Try.prog 86 #[.slice a n c, .slice a' m c'] w fun e w' => e = .returned (.bool b) ∧ Below w.heap.size w w' := by
  unfold Big at hn hm
  have HR := Lib.hid hr
  have HR' := Lib.hid hr'
  have HB := Lib.hid hb
  clear hr hr' hb
  by_cases hnm : n = m
  case neg =>
    obtain rfl : b = false := bool_false_of_ne fun h => hnm (HB.out.1 h).1
    have d : ((n : Int) != (m : Int)) = true := by simpa using (show ¬ (n : Int) = (m : Int) by omega)
    go_enter Try.func86, Try.ntmps86
    go_wp2
    go_ret
    exact ⟨rfl, Below.refl _ _⟩
  subst hnm
  have HB2 : Hid (b = true ↔ ∀ i, i < n → F i = G i) := Lib.hid ⟨fun h => (HB.out.1 h).2, fun h => HB.out.2 ⟨rfl, h⟩⟩
  clear HB
  go_enter Try.func86, Try.ntmps86
  go_wp2
  go_loopw [13, 5] (fun i _ wr => ∃ j : Nat, j ≤ n ∧ i = .int .i64 j ∧ Hid ((∀ k, k < j → F k = G k) ∧ Below w.heap.size w wr)) (fun i _ _ => n - (intOf i).toNat)
  case atStart => exact ⟨0, by omega, rfl, Lib.hid ⟨fun k hk => absurd hk (Nat.not_lt_zero k), Below.refl _ _⟩⟩
  case round =>
    obtain ⟨j, hj, rfl, HQ⟩ := hrel
    by_cases hjn : j < n
    · have gj : (j : Int) < n := by omega
      rcases Row1.kept HR.out (Kept.of HQ.out.2) with h0 | ⟨x, o, rfl, hx, hc⟩
      · exact absurd h0 (by omega)
      have c0 := hc j hjn; clear hc
      rcases Row1.kept HR'.out (Kept.of HQ.out.2) with h0 | ⟨x', o', rfl, hx', hc⟩
      · exact absurd h0 (by omega)
      have c1 := hc j hjn; clear hc
      by_cases heq : F j = G j
      · have d : (F j != G j) = false := by simpa using heq
        have HE := Lib.hid heq
        clear heq
        go_wp2
        go_quiet (fail)
        go_wp2
        exact ⟨⟨j + 1, by omega, by go_num, Lib.hid ⟨forall_snoc HQ.out.1 HE.out, below_drewN HQ.out.2 _⟩⟩, by simp [intOf]; omega⟩
      · have d : (F j != G j) = true := by simpa using heq
        have HE := Lib.hid heq
        clear heq
        obtain rfl : b = false := bool_false_of_ne fun h => HE.out (HB2.out.1 h j hjn)
        go_wp2
        go_quiet (fail)
        go_wp2
        go_ret
        exact ⟨rfl, below_drewN HQ.out.2 _⟩
    · obtain rfl : j = n := by omega
      obtain rfl : b = true := HB2.out.2 HQ.out.1
      go_wp2
      go_ret
      exact ⟨rfl, HQ.out.2⟩

set_option maxHeartbeats 1000000 in
theorem eq50_c (a : Option Addr) (n c : Nat) (a' : Option Addr) (m c' : Nat) (F G : Nat → Int) (w : World) (hn : n ≤ Big) (hm : m ≤ Big) (hr : Row1 w a n (fun i => .int .i64 (F i))) (hr' : Row1 w a' m (fun i => .int .i64 (G i))) (b : Bool) (hb : b = true ↔ n = m ∧ ∀ i, i < n → F i = G i) :
    Calls Try.prog 50 #[.slice a n c, .slice a' m c'] w fun e w' => e = .returned (.bool b) ∧ Below w.heap.size w w' := by
  unfold Big at hn hm
  have HR := Lib.hid hr
  have HR' := Lib.hid hr'
  have HB := Lib.hid hb
  clear hr hr' hb
  by_cases hnm : n = m
  case neg =>
    obtain rfl : b = false := bool_false_of_ne fun h => hnm (HB.out.1 h).1
    have d : ((n : Int) != (m : Int)) = true := by simpa using (show ¬ (n : Int) = (m : Int) by omega)
    go_enter Try.func50, Try.ntmps50
    go_wp2
    go_ret
    exact ⟨rfl, Below.refl _ _⟩
  subst hnm
  have HB2 : Hid (b = true ↔ ∀ i, i < n → F i = G i) := Lib.hid ⟨fun h => (HB.out.1 h).2, fun h => HB.out.2 ⟨rfl, h⟩⟩
  clear HB
  go_enter Try.func50, Try.ntmps50
  go_wp2
  go_loopw [5] (fun i wr => ∃ j : Nat, j ≤ n ∧ i = .int .i64 j ∧ Hid ((∀ k, k < j → F k = G k) ∧ Below w.heap.size w wr)) (fun i _ => n - (intOf i).toNat)
  case atStart => exact ⟨0, by omega, rfl, Lib.hid ⟨fun k hk => absurd hk (Nat.not_lt_zero k), Below.refl _ _⟩⟩
  case round =>
    obtain ⟨j, hj, rfl, HQ⟩ := hrel
    by_cases hjn : j < n
    · have gj : (j : Int) < n := by omega
      rcases Row1.kept HR.out (Kept.of HQ.out.2) with h0 | ⟨x, o, rfl, hx, hc⟩
      · exact absurd h0 (by omega)
      have c0 := hc j hjn; clear hc
      rcases Row1.kept HR'.out (Kept.of HQ.out.2) with h0 | ⟨x', o', rfl, hx', hc⟩
      · exact absurd h0 (by omega)
      have c1 := hc j hjn; clear hc
      by_cases heq : F j = G j
      · have d : (F j != G j) = false := by simpa using heq
        have HE := Lib.hid heq
        clear heq
        go_wp2
        go_quiet (fail)
        go_wp2
        exact ⟨⟨j + 1, by omega, by go_num, Lib.hid ⟨forall_snoc HQ.out.1 HE.out, below_drewN HQ.out.2 _⟩⟩, by simp [intOf]; omega⟩
      · have d : (F j != G j) = true := by simpa using heq
        have HE := Lib.hid heq
        clear heq
        obtain rfl : b = false := bool_false_of_ne fun h => HE.out (HB2.out.1 h j hjn)
        go_wp2
        go_quiet (fail)
        go_wp2
        go_ret
        exact ⟨rfl, below_drewN HQ.out.2 _⟩
    · obtain rfl : j = n := by omega
      obtain rfl : b = true := HB2.out.2 HQ.out.1
      go_wp2
      go_ret
      exact ⟨rfl, HQ.out.2⟩
end Go.Proofs.Ytpiafgmncfibmaa
