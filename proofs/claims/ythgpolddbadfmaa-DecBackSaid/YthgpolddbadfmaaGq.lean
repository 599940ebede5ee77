import Derived.Test.YthgpolddbadfmaaGp
import Derived.Test.YthgpolddbadfmaaGr
namespace Go.Proofs.Ythgpolddbadfmaa
open Go.ChangeShapes Go.WideShapes Go.ChangeAt Go.RowKit
set_option linter.unusedVariables false
theorem decP_uniq {x o d n m a c i o2 d2 n2 m2 a2 c2 i2 : Int} (h : DecP x o d n m a c i) (h' : DecP x o2 d2 n2 m2 a2 c2 i2) : o = o2 ∧ d = d2 ∧ n = n2 ∧ m = m2 ∧ a = a2 ∧ c = c2 ∧ i = i2 := by
  rcases h with ⟨j, h1, h43, rfl, hok, hw⟩ | ⟨⟨rfl, rfl, rfl, rfl, rfl, rfl, rfl⟩, hno⟩
  · rcases h' with ⟨j2, h1', h43', rfl, hok', hw'⟩ | ⟨_, hno⟩
    · obtain ⟨l, hl, hlw⟩ := wordN_lays j h43 d n m a c i
      obtain ⟨l', hl', hlw'⟩ := wordN_lays j2 h43' d2 n2 m2 a2 c2 i2
      obtain rfl : j = j2 := unlike_ops j j2 h43 h43' l l' hl hl' (by rw [← hlw, ← hlw', hw, hw'])
      exact ⟨rfl, wordN_inj j h43 d n m a c i d2 n2 m2 a2 c2 i2 hok hok' (by rw [hw, hw'])⟩
    · exact absurd hw (hno j h1 h43 d n m a c i hok)
  · rcases h' with ⟨j2, h1', h43', rfl, hok', hw'⟩ | ⟨⟨rfl, rfl, rfl, rfl, rfl, rfl, rfl⟩, _⟩
    · exact absurd hw' (hno j2 h1' h43' d2 n2 m2 a2 c2 i2 hok')
    · exact ⟨rfl, rfl, rfl, rfl, rfl, rfl, rfl⟩
theorem dec_u {x o d n m a c i : Int} (hx : 0 ≤ x) (hx' : x < 4294967296) (hP : DecP x o d n m a c i) (w : World) : Calls Try.prog 18 #[.int .u32 x] w fun e w' => e = .returned (I7 o d n m a c i) ∧ Below w.heap.size w w' := by
  obtain ⟨o2, d2, n2, m2, a2, c2, i2, hc, hP2⟩ := dec_or x hx hx'
  obtain ⟨rfl, rfl, rfl, rfl, rfl, rfl, rfl⟩ := decP_uniq hP hP2
  exact hc w
theorem rins_u {x o d n m a c i : Int} (hx : 0 ≤ x) (hx' : x < 4294967296) (hP : DecP x o d n m a c i) (w : World) : Calls Try.prog 19 #[.int .u32 x] w fun e w' => e = .returned (I7 o d n m a c i) ∧ Below w.heap.size w w' := by
  refine (rins_c x w hx hx').mono ?_
  rintro e w' ⟨⟨o2, d2, n2, m2, a2, c2, i2, rfl, hP2⟩, hb⟩
  obtain ⟨rfl, rfl, rfl, rfl, rfl, rfl, rfl⟩ := decP_uniq hP hP2
  exact ⟨rfl, hb⟩
theorem right_c {x o d n m a c i : Int} (hx : 0 ≤ x) (hx' : x < 4294967296) (hP : DecP x o d n m a c i) (w : World) : Calls Try.prog 20 #[.int .u32 x] w fun e w' => e = .returned (.bool (!(o == 0))) ∧ Below w.heap.size w w' := by
  have H18 := Lib.hid (fun w => dec_u hx hx' hP w)
  have H46 := Lib.hid (fun w => undef_c x w hx hx')
  rcases hP with ⟨j, h1, h43, rfl, hok, hw⟩ | ⟨⟨rfl, rfl, rfl, rfl, rfl, rfl, rfl⟩, hno⟩
  · have ho : ((j : Int) == 0) = false := by simpa using (show ¬ (j : Int) = 0 by omega)
    rw [ho]
    clear hok hw
    generalize fd x 0 16 = u at H46
    go_enter Try.func20, Try.ntmps20
    go_wp2_with (first | (go_at_call 18; refine (H18.out _).mono ?_; rintro e w1 ⟨rfl, hb⟩; have HB1 := Lib.hid hb; clear hb) | (go_at_call 46; refine (H46.out _).mono ?_; rintro e w2 ⟨rfl, hb⟩; have HB2 := Lib.hid (HB1.out.trans (hb.mono HB1.out.size)); clear hb))
    go_ret
    exact ⟨rfl, HB2.out⟩
  · clear hno
    rw [show (!((0 : Int) == 0)) = false from rfl]
    generalize fd x 0 16 = u at H18 H46
    go_enter Try.func20, Try.ntmps20
    go_wp2_with (first | (go_at_call 18; refine (H18.out _).mono ?_; rintro e w1 ⟨rfl, hb⟩; have HB1 := Lib.hid hb; clear hb) | (go_at_call 46; refine (H46.out _).mono ?_; rintro e w2 ⟨rfl, hb⟩; have HB2 := Lib.hid (HB1.out.trans (hb.mono HB1.out.size)); clear hb))
    go_ret
    exact ⟨rfl, HB2.out⟩
theorem field_op (o d n m a c i : Int) (w : World) : (Instr.field 23 (I7 o d n m a c i) 0).run Try.prog w = .ok (.int .i64 o) w := by kernel_rfl
theorem rright_c {x o d n m a c i : Int} (hx : 0 ≤ x) (hx' : x < 4294967296) (hP : DecP x o d n m a c i) (w : World) : Calls Try.prog 21 #[.int .u32 x] w fun e w' => e = .returned (.bool (!(o == 0))) ∧ Below w.heap.size w w' := by
  have H19 := Lib.hid (fun w => rins_u hx hx' hP w)
  have hf := field_op o d n m a c i
  clear hP
  go_enter Try.func21, Try.ntmps21
  go_wp2_with (go_at_call 19; refine (H19.out _).mono ?_; rintro e w1 ⟨rfl, hb⟩; have HB1 := Lib.hid hb; clear hb)
  go_ret
  exact ⟨rfl, HB1.out⟩
theorem none_of (x : Int) (h : ((List.range 43).all fun j => j == 0 || (List.range 32).any fun i => outside (posL.getD j []) i && (x.toNat.testBit i != (baseL.getD j 0).toNat.testBit i)) = true) : DecP x 0 0 0 0 0 0 (fd x 0 16) := by
  refine .inr ⟨⟨rfl, rfl, rfl, rfl, rfl, rfl, rfl⟩, fun j h1 h43 d n m a c i hok hw => ?_⟩
  rw [List.all_eq_true] at h
  have hj := h j (by simpa using h43)
  simp only [Bool.or_eq_true, beq_iff_eq, List.any_eq_true, Bool.and_eq_true, bne_iff_ne, List.mem_range] at hj
  rcases hj with hj | ⟨i0, hi, hout, hne⟩
  · omega
  · exact hne (word_agree j h43 d n m a c i x hw i0 hi hout)
theorem dec_a : DecP 3596551104 27 0 30 0 0 0 0 := .inl ⟨27, by decide, by decide, rfl, by decide, by decide +kernel⟩
theorem dec_b : DecP 4294967295 0 0 0 0 0 0 65535 := none_of 4294967295 (by decide +kernel)
theorem dec_z : DecP 0 0 0 0 0 0 0 0 := none_of 0 (by decide +kernel)
theorem known17_c (w : World) : Calls Try.prog 17 #[] w fun e w' => e = .returned (.bool true) ∧ Below w.heap.size w w' := by
  have H1 := Lib.hid (fun w => dec_u (by decide) (by decide) dec_a w)
  have H2 := Lib.hid (fun w => dec_u (by decide) (by decide) dec_b w)
  have H3 := Lib.hid (fun w => right_c (by decide) (by decide) dec_z w)
  go_enter Try.func17, Try.ntmps17
  go_wp2_with fail
  refine (H1.out _).mono ?_
  rintro e w1 ⟨rfl, hb⟩
  have HB1 := Lib.hid hb
  clear hb
  go_wp2_with fail
  refine (H2.out _).mono ?_
  rintro e w2 ⟨rfl, hb⟩
  have HB2 := Lib.hid (HB1.out.trans (hb.mono HB1.out.size))
  clear hb
  go_wp2_with fail
  refine (H3.out _).mono ?_
  rintro e w3 ⟨rfl, hb⟩
  have HB3 := Lib.hid (HB2.out.trans (hb.mono HB2.out.size))
  clear hb
  go_wp2
  go_ret
  exact ⟨rfl, HB3.out⟩
theorem decwords_any (x : Int) (hr : (Lit.int .u32 x).wf = true) (w : World) : Calls Try.prog 6 #[.int .u32 x] w fun e w' => e = .returned (.bool true) ∧ Below w.heap.size w w' := by
  obtain ⟨hx, hx'⟩ : 0 ≤ x ∧ x < 4294967296 := by
    simp [Lit.wf, IntKind.min, IntKind.max, IntKind.signed, IntKind.bits] at hr
    omega
  obtain ⟨o, d, n, m, a, c, i, _, hP⟩ := dec_or x hx hx'
  have H18 := Lib.hid (fun w => dec_u hx hx' hP w)
  have H19 := Lib.hid (fun w => rins_u hx hx' hP w)
  have H20 := Lib.hid (fun w => right_c hx hx' hP w)
  have H21 := Lib.hid (fun w => rright_c hx hx' hP w)
  obtain ⟨b, hb⟩ : ∃ b : Bool, (!(o == 0)) = b := ⟨_, rfl⟩
  rw [hb] at H20 H21
  clear hP hb
  go_enter Try.func6, Try.ntmps6
  go_wp2_with fail
  refine (known17_c _).mono ?_
  rintro e w0 ⟨rfl, hb⟩
  have HB0 := Lib.hid hb
  clear hb
  go_wp2_with fail
  refine (H18.out _).mono ?_
  rintro e w1 ⟨rfl, hb⟩
  have HB1 := Lib.hid (HB0.out.trans (hb.mono HB0.out.size))
  clear hb
  go_wp2_with fail
  refine (H19.out _).mono ?_
  rintro e w2 ⟨rfl, hb⟩
  have HB2 := Lib.hid (HB1.out.trans (hb.mono HB1.out.size))
  clear hb
  go_wp2_with fail
  refine (H20.out _).mono ?_
  rintro e w3 ⟨rfl, hb⟩
  have HB3 := Lib.hid (HB2.out.trans (hb.mono HB2.out.size))
  clear hb
  go_wp2_with fail
  refine (H21.out _).mono ?_
  rintro e w4 ⟨rfl, hb⟩
  have HB4 := Lib.hid (HB3.out.trans (hb.mono HB3.out.size))
  clear hb
  go_wp2
  go_ret
  exact ⟨rfl, HB4.out⟩
end Go.Proofs.Ythgpolddbadfmaa
