import Derived.Test.YtnbpgoacooddjaaEGp
namespace Go.Proofs.Ytnbpgoacooddjaa.Fr
end Go.Proofs.Ytnbpgoacooddjaa.Fr
namespace Go.Proofs.Ytnbpgoacooddjaa.En
open Go.Proofs.Ytnbpgoacooddjaa.Fr
open Go.ChangeShapes Go.WideShapes Go.ChangeAt Go.RowKit
set_option linter.unusedVariables false
end Go.Proofs.Ytnbpgoacooddjaa.En
namespace Go.Proofs.Ytnbpgoacooddjaa.Fr
end Go.Proofs.Ytnbpgoacooddjaa.Fr
namespace Go.Proofs.Ytnbpgoacooddjaa.En
open Go.Proofs.Ytnbpgoacooddjaa.Fr
open Go.ChangeShapes Go.WideShapes Go.ChangeAt Go.RowKit
set_option linter.unusedVariables false
theorem decP_uniq {x o d n m a c i o2 d2 n2 m2 a2 c2 i2 : Int} (h : DecP x o d n m a c i) (h' : DecP x o2 d2 n2 m2 a2 c2 i2) : o = o2 ∧ d = d2 ∧ n = n2 ∧ m = m2 ∧ a = a2 ∧ c = c2 ∧ i = i2 := by
  rcases h with ⟨j, h1, h43, rfl, hok, hw⟩ | ⟨⟨rfl, rfl, rfl, rfl, rfl, rfl, rfl⟩, hno⟩
  · rcases h' with ⟨j2, h1', h43', rfl, hok', hw'⟩ | ⟨_, hno⟩
    · obtain ⟨l, hl, hlw⟩ := wordN_lays j h43 d n m a c i
      obtain ⟨l', hl', hlw'⟩ := wordN_lays j2 h43' d2 n2 m2 a2 c2 i2
      obtain rfl : j = j2 := unlike_ops j j2 h43 h43' l l' hl hl' (by rw [← hlw, ← hlw', hw, hw'])
      exact ⟨rfl, wordN_inj j h43 d n m a c i d2 n2 m2 a2 c2 i2 hok hok' (by rw [hw, hw'])⟩
    · exact absurd hw (hno j h1 h43 d n m a c i hok)
  · rcases h' with ⟨j2, h1', h43', rfl, hok', hw'⟩ | ⟨⟨rfl, rfl, rfl, rfl, rfl, rfl, rfl⟩, _⟩
    · exact absurd hw' (hno j2 h1' h43' d2 n2 m2 a2 c2 i2 hok')
    · exact ⟨rfl, rfl, rfl, rfl, rfl, rfl, rfl⟩
theorem dec_u {x o d n m a c i : Int} (hx : 0 ≤ x) (hx' : x < 4294967296) (hP : DecP x o d n m a c i) (w : World) : Calls Try.prog 24 #[.int .u32 x] w fun e w' => e = .returned (I7 o d n m a c i) ∧ Below w.heap.size w w' := by
  obtain ⟨o2, d2, n2, m2, a2, c2, i2, hc, hP2⟩ := dec_or x hx hx'
  obtain ⟨rfl, rfl, rfl, rfl, rfl, rfl, rfl⟩ := decP_uniq hP hP2
  exact hc w
theorem none_of (x : Int) (h : ((List.range 43).all fun j => j == 0 || (List.range 32).any fun i => outside (posL.getD j []) i && (x.toNat.testBit i != (baseL.getD j 0).toNat.testBit i)) = true) : DecP x 0 0 0 0 0 0 (fd x 0 16) := by
  refine .inr ⟨⟨rfl, rfl, rfl, rfl, rfl, rfl, rfl⟩, fun j h1 h43 d n m a c i hok hw => ?_⟩
  rw [List.all_eq_true] at h
  have hj := h j (by simpa using h43)
  simp only [Bool.or_eq_true, beq_iff_eq, List.any_eq_true, Bool.and_eq_true, bne_iff_ne, List.mem_range] at hj
  rcases hj with hj | ⟨i0, hi, hout, hne⟩
  · omega
  · exact hne (word_agree j h43 d n m a c i x hw i0 hi hout)
theorem dec_a : DecP 3596551104 27 0 30 0 0 0 0 := .inl ⟨27, by decide, by decide, rfl, by decide, by decide +kernel⟩
theorem dec_b : DecP 4294967295 0 0 0 0 0 0 65535 := none_of 4294967295 (by decide +kernel)
theorem dec_z : DecP 0 0 0 0 0 0 0 0 := none_of 0 (by decide +kernel)
end Go.Proofs.Ytnbpgoacooddjaa.En
