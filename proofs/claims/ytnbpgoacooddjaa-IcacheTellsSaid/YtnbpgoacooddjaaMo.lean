import Derived.Test.YtnbpgoacooddjaaMn
namespace Go.Proofs.Ytnbpgoacooddjaa.Mm
open Go.ChangeShapes Go.WideShapes Go.ChangeAt Go.RowKit
set_option linter.unusedVariables false
section
variable {w : World} {FP : Nat → Prop} {p : Nat} {M : Me} {v : Value} {B C : Nat → Nat}
set_option maxRecDepth 100000 in
set_option maxHeartbeats 4000000 in
/-- What the document's in (140) tells. -/
theorem in_c (h : MeC 213 215 w FP p M v B C) (x m : Nat) (hx : x < 18446744073709551616) (hm : m < 18446744073709551616) :
    Calls Try.prog 140 #[.pointer (some ⟨p, 0, none⟩), .int .u64 x, .int .u64 m] w fun e w' => (((∃ k o, Hs M x m k o ∧ e = .returned (.int .i64 k))) ∨ ((∀ k o, ¬ Hs M x m k o) ∧ e = .returned (.int .i64 (-1)))) ∧ Below w.heap.size w w' := by
  have H0 := Lib.hid h
  have hn16 := h.ok.n16
  have HS := Lib.hid h.ok.sz
  obtain ⟨a, cap, rfl, ha⟩ := own_form h.ars
  clear h
  go_enter Try.func140, Try.ntmps140
  go_wp2
  go_loopw [7, 8] (fun i _ wr => ∃ j : Nat, j ≤ M.n ∧ i = .int .i64 j ∧ Hid (∀ i, i < j → ∀ o, ¬ Hs M x m i o) ∧ Hid (Below w.heap.size w wr)) (fun i _ _ => M.n + 1 - (intOf i).toNat)
  case atStart => exact ⟨0, by omega, rfl, Lib.hid (fun i hi => by omega), Lib.hid (Below.refl _ _)⟩
  case round =>
    obtain ⟨j, hj, rfl, HN, HB⟩ := hrel
    have H := Lib.hid (H0.out.past HB.out)
    have hcm := H.out.cv
    by_cases hjn : j < M.n
    · obtain ⟨ab, rfl⟩ : ∃ g, a = some ⟨g, 0, none⟩ := by
        rcases ha with ha | ha
        · omega
        · exact ha
      obtain ⟨f1, f2, f3, f4, f5⟩ := H.out.area rfl j hjn
      have hab : ab < wr.heap.size := H.out.fl ab (H.out.fv ab rfl)
      have hpr : p < wr.heap.size := H.out.fl p H.out.fp
      have gj : (j : Int) < M.n := by omega
      obtain ⟨s0, s1, s2, _, _⟩ := HS.out j hjn
      have HB2 : Hid (Below w.heap.size w (wr.alloc (.cells #[.int .u64 (M.A j : Nat), .int .u64 (M.S j : Nat), .bool (M.W j), .bool (M.X j)] 113))) := Lib.hid (HB.out.alloc HB.out.size _)
      by_cases hlt : x < M.A j
      · have d0 : decide (M.A j ≤ x) = false := decide_eq_false (by omega)
        have HNo : Hid (∀ o, ¬ Hs M x m j o) := Lib.hid (fun o ⟨_, e, _⟩ => by omega)
        go_wp2
        refine ⟨⟨j + 1, by omega, by simp, Lib.hid (fun i hi o => ?_), HB2⟩, by simp [intOf]; omega⟩
        rcases Nat.lt_or_ge i j with hi2 | hi2
        · exact HN.out i hi2 o
        · obtain rfl : i = j := by omega
          exact HNo.out o
      · obtain ⟨t, ht, t1, t2⟩ := wrap_near x (M.A j) (by omega) hx
        have d0 : decide (M.A j ≤ x) = true := decide_eq_true (by omega)
        by_cases hin : x - M.A j < M.S j
        · have d1 : decide (t < (M.S j : Int)) = true := decide_eq_true (by omega)
          obtain ⟨u, hu, u1, u2⟩ : ∃ u : Int, IntKind.u64.wrap ((M.S j : Int) - t) = u ∧ u ≤ ((M.S j - (x - M.A j) : Nat) : Int) ∧ ((M.S j - (x - M.A j) : Nat) : Int) ≤ u := ⟨_, rfl, by rw [IntKind.wrap_u64]; omega, by rw [IntKind.wrap_u64]; omega⟩
          by_cases hfit : m ≤ M.S j - (x - M.A j)
          · have d2 : decide ((m : Int) ≤ u) = true := decide_eq_true (by omega)
            have HY : Hid (Hs M x m j (x - M.A j)) := Lib.hid ⟨hjn, by omega, hin, by omega⟩
            clear s0 s1 s2 t1 t2 u1 u2 hfit hin hlt
            go_wp2
            go_ret
            exact ⟨.inl ⟨j, _, HY.out, rfl⟩, HB2.out⟩
          · have d2 : decide ((m : Int) ≤ u) = false := decide_eq_false (by omega)
            have HNo : Hid (∀ o, ¬ Hs M x m j o) := Lib.hid (fun o ⟨_, e, _, e2⟩ => by omega)
            clear s0 s1 s2 t1 t2 u1 u2 hfit hin hlt
            go_wp2
            refine ⟨⟨j + 1, by omega, by simp, Lib.hid (fun i hi o => ?_), HB2⟩, by simp [intOf]; omega⟩
            rcases Nat.lt_or_ge i j with hi2 | hi2
            · exact HN.out i hi2 o
            · obtain rfl : i = j := by omega
              exact HNo.out o
        · have d1 : decide (t < (M.S j : Int)) = false := decide_eq_false (by omega)
          have HNo : Hid (∀ o, ¬ Hs M x m j o) := Lib.hid (fun o ⟨_, e, e2, _⟩ => by omega)
          clear s0 s1 s2 t1 t2 hin hlt
          go_wp2
          refine ⟨⟨j + 1, by omega, by simp, Lib.hid (fun i hi o => ?_), HB2⟩, by simp [intOf]; omega⟩
          rcases Nat.lt_or_ge i j with hi2 | hi2
          · exact HN.out i hi2 o
          · obtain rfl : i = j := by omega
            exact HNo.out o
    · obtain rfl : j = M.n := by omega
      go_wp2
      go_ret
      exact ⟨.inr ⟨fun k o hk => HN.out k hk.1 o hk, rfl⟩, HB.out⟩
end
end Go.Proofs.Ytnbpgoacooddjaa.Mm
