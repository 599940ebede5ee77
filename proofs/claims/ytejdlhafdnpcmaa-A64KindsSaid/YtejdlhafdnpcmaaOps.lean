import Derived.Test.YtejdlhafdnpcmaaRdH
import Derived.Test.YtejdlhafdnpcmaaNw
namespace Go.Proofs.Ytejdlhafdnpcmaa
open Go.RowKit Go.Shelf
set_option linter.unusedVariables false
attribute [local go_sem] Oper.semAt_some
def up (k : Nat) : List Int := (List.range k).map fun j : Nat => Int.ofNat j
theorem up_length (k : Nat) : (up k).length = k := by simp [up]
theorem up_succ (k : Nat) : up (k + 1) = up k ++ [(k : Int)] := by simp [up, List.range_succ]
set_option maxRecDepth 100000 in
set_option maxHeartbeats 2000000 in
theorem ops_stops (w : World) : SeqStopsK Fence.wide 4 Try.prog 49 #[] (fun x : Int => #[.int .i64 x]) (fun _ _ => True) (fun xs => xs = up 43) (fun pre => ∃ k, pre = up k ++ [(k : Int)]) 43 w := fun l J Jx W hW hJ hJx hY h0 => by
  refine callsIn_of_wp Try.func49 rfl trivial ?_ rfl
  simp only [Try.ntmps49, List.size_toArray, List.length_cons, List.length_nil, Nat.reduceAdd, Nat.reduceSub, Array.replicate_succ, Array.replicate_zero, List.push_toArray, List.append_toArray, List.nil_append, List.cons_append]
  gi_wp2
  gi_loopw [2] (fun i wr => ∃ k : Nat, k ≤ 43 ∧ i = .int .i64 k ∧ J (up k) wr) (fun i _ => 43 - (intOf i).toNat)
  case atStart => exact ⟨0, by omega, rfl, h0⟩
  case round =>
    obtain ⟨k, hk, rfl, hJs⟩ := hrel
    by_cases hlt : k < 43
    · obtain ⟨fn, tmps, assign, body, hy, hR⟩ := hY (up k) k wr hJs (by rw [up_length]; exact hlt)
      have gk : (k : Int) ≤ 42 := by omega
      gi_wp2
      refine hR.mono ?_
      rintro e W3 (⟨rfl, hJ3, hk3⟩ | ⟨rfl, hJx3⟩)
      · gi_wp2
        go_roundw
        case rel => exact ⟨k + 1, by omega, by simp, by rw [up_succ]; exact hJ3⟩
        case measure => simp [intOf]; omega
      · gi_wp2
        refine bodyPost_ret (results_none rfl _ _ _) rfl ?_
        exact ⟨⟨_, rfl⟩, .inr ⟨_, ⟨k, rfl⟩, hJx3⟩⟩
    · have hk43 : k = 43 := by omega
      have HK := Lib.hid hk43
      have gk : ¬ (k : Int) ≤ 42 := by omega
      clear hk43
      gi_wp2
      go_end0
      first | exact ⟨⟨_, rfl⟩, .inl ⟨_, rfl, HK.out ▸ hJs⟩⟩ | exact ⟨⟨_, rfl⟩, .inl (HK.out ▸ hJs)⟩
end Go.Proofs.Ytejdlhafdnpcmaa
