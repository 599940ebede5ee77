import Derived.Deep.QuietTactic
import Derived.BigQuiet
import Derived.Test.YtejdlhafdnpcmaaKn
namespace Go.Proofs.Ytejdlhafdnpcmaa
open Go.RowKit
set_option linter.unusedVariables false
theorem same_0 (A1 A2 : Option Addr) (c1 c2 : Nat) (w : World) : Calls Try.prog 11 #[.slice A1 0 c1, .slice A2 0 c2] w fun e w' => e = .returned (.bool true) ∧ Below w.heap.size w w' := by
  go_enter Try.func11, Try.ntmps11
  go_wp2
  go_loop [5] (fun i => i = .int .i64 0) (fun i => 0)
  case atStart => rfl
  case round =>
    subst hrel
    go_wp2
    go_ret
    exact ⟨rfl, Below.refl _ _⟩
theorem below_drewN {a w : World} (h : Below a.heap.size a w) (n : Nat) : Below a.heap.size a (w.drewN n) := by
  exact ⟨h.os, h.tape, h.output, h.size, h.block⟩
set_option maxRecDepth 100000 in
set_option maxHeartbeats 1000000 in
theorem same_s (g1 g2 n c1 c2 : Nat) (F : Nat → Int) (w : World) (hn : n ≤ 40) (h1 : n ≤ c1) (h2 : n ≤ c2) (hc1 : ∀ p, p < n → w.cell? ⟨g1, p, none⟩ = some (.int .i64 (F p))) (hc2 : ∀ p, p < n → w.cell? ⟨g2, p, none⟩ = some (.int .i64 (F p))) :
    Calls Try.prog 11 #[.slice (some ⟨g1, 0, none⟩) n c1, .slice (some ⟨g2, 0, none⟩) n c2] w fun e w' => e = .returned (.bool true) ∧ Below w.heap.size w w' := by
  have H1 := Lib.hid hc1
  have H2 := Lib.hid hc2
  clear hc1 hc2
  have HN := Lib.hid hn
  go_enter Try.func11, Try.ntmps11
  go_wp2
  go_loopw [5] (fun i wr => ∃ k : Nat, k ≤ n ∧ i = .int .i64 k ∧ ∃ q, Hid (wr = w.drewN q)) (fun i _ => n - (intOf i).toNat)
  case atStart => exact ⟨0, by omega, rfl, 0, Lib.hid rfl⟩
  case round =>
    obtain ⟨k, hk, rfl, q, hq⟩ := hrel
    obtain rfl := hq.out
    clear hq
    by_cases hlt : k < n
    · have d1 := H1.out k hlt
      have d2 := H2.out k hlt
      have gk : (k : Int) < n := by omega
      have gk0 : (0 : Int) ≤ k := by omega
      go_wp2
      go_quiet (fail)
      go_wp2
      exact ⟨⟨k + 1, by omega, by go_num, _, Lib.hid rfl⟩, by simp [intOf]; omega⟩
    · obtain rfl : k = n := by omega
      go_wp2
      go_ret
      exact ⟨rfl, below_drewN (Below.refl _ _) _⟩
theorem same_c (B1 B2 : Nat) (xs : List Int) (v1 v2 : Value) (w : World) (hn : xs.length ≤ 40) (h1 : w.ownsRow B1 3 1 v1 xs.length (ivs xs)) (h2 : w.ownsRow B2 3 1 v2 xs.length (ivs xs)) :
    Calls Try.prog 11 #[v1, v2] w fun e w' => e = .returned (.bool true) ∧ Below w.heap.size w w' := by
  rcases xs with _ | ⟨x, xs⟩
  · have k1 : ∃ A c, v1 = .slice A 0 c := by
      rcases h1.2 with ⟨rfl, _⟩ | ⟨g, cap, cur, rfl, _⟩
      · exact ⟨_, _, rfl⟩
      · exact ⟨_, _, rfl⟩
    have k2 : ∃ A c, v2 = .slice A 0 c := by
      rcases h2.2 with ⟨rfl, _⟩ | ⟨g, cap, cur, rfl, _⟩
      · exact ⟨_, _, rfl⟩
      · exact ⟨_, _, rfl⟩
    obtain ⟨A1, c1, rfl⟩ := k1
    obtain ⟨A2, c2, rfl⟩ := k2
    exact same_0 A1 A2 c1 c2 w
  · obtain ⟨g1, c1, rfl⟩ := ownsRow_succ (k := xs.length) h1
    obtain ⟨g2, c2, rfl⟩ := ownsRow_succ (k := xs.length) h2
    obtain ⟨_, q1, r1, _⟩ := rows_of h1
    obtain ⟨_, q2, r2, _⟩ := rows_of h2
    exact same_s g1 g2 _ c1 c2 (fun p => (x :: xs).getD p 0) w hn q1 q2 (fun p hp => r1 p _ (ivs_get _ p hp)) (fun p hp => r2 p _ (ivs_get _ p hp))
end Go.Proofs.Ytejdlhafdnpcmaa
