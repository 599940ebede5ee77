import Derived.Test.YtnbpgoacooddjaaFReg
import Derived.WalkLawsBesides
import Derived.WalkSpells
namespace Go.Proofs.Ytnbpgoacooddjaa.Fr
open Go.RowKit Go.Shelf
set_option linter.unusedVariables false
/-- What In and Out answer. -/
def RowP (T : List Int) (w : World) (e : Ending) (w' : World) : Prop := ∃ v, e = .returned v ∧ w'.ownsRow w.heap.size 3 1 v (puts T).length (ivs (puts T)) ∧ (puts T = [] → v = .slice none 0 0) ∧ Below w.heap.size w w'
theorem RowP.from {T : List Int} {w w1 : World} {e : Ending} {w' : World} (h : RowP T w1 e w') (hb : Below w.heap.size w w1) : RowP T w e w' := by
  obtain ⟨v, h1, h2, h3, h4⟩ := h
  exact ⟨v, h1, ownsRow_mono h2 hb.size, h3, hb.trans (h4.mono hb.size)⟩
/-- Nothing, where the instruction may not be. -/
theorem registers_nil (op d n m a c i : Int) (tf : Nat) (w : World)
    (hck : ∀ W, Calls Try.prog 31 #[.agg #[.int .i64 op, .int .i64 d, .int .i64 n, .int .i64 m, .int .i64 a, .int .i64 c, .int .i64 i]] W fun e W' => e = .returned (.int .i64 1) ∧ Below W.heap.size W W') :
    Calls Try.prog 151 #[.agg #[.int .i64 op, .int .i64 d, .int .i64 n, .int .i64 m, .int .i64 a, .int .i64 c, .int .i64 i], .func (.func tf) #[] #[]] w fun e w' => e = .returned (.slice none 0 0) ∧ Below w.heap.size w w' := by
  have HC := Lib.hid hck
  clear hck
  refine (callsIn_wide (n := 5)).1 ?_
  refine callsIn_of_wp_marks Try.func151 rfl trivial ?_ rfl
  simp only [Try.ntmps151, List.size_toArray, List.length_cons, List.length_nil, Nat.reduceAdd, Nat.reduceSub, Array.replicate_succ, Array.replicate_zero, List.push_toArray, List.append_toArray, List.nil_append, List.cons_append]
  gi_wp2_with (fail)
  have HI0 := Lib.hid (InsAt.new w (.int .i64 op) (.int .i64 d) (.int .i64 n) (.int .i64 m) (.int .i64 a) (.int .i64 c) (.int .i64 i))
  refine ⟨trivial, ?_⟩
  refine (callsIn_wide.2 (HC.out _)).mono ?_
  rintro e w1 ⟨rfl, hb1⟩
  have HBA := Lib.hid (((Below.refl _ _).alloc (Nat.le_refl _) _).trans (hb1.mono (by simp)) : Below w.heap.size w w1)
  clear hb1
  gi_wp2
  exact ⟨_, results_tmp rfl _ _ _, rfl, HBA.out⟩
theorem in_make (op d n m a c i : Int) (T : List Int) (w : World)
    (h : ∀ w, Calls Try.prog 151 #[.agg #[.int .i64 op, .int .i64 d, .int .i64 n, .int .i64 m, .int .i64 a, .int .i64 c, .int .i64 i], .func (.func 152) #[] #[]] w (RowP T w)) :
    Calls Try.prog 71 #[.agg #[.int .i64 op, .int .i64 d, .int .i64 n, .int .i64 m, .int .i64 a, .int .i64 c, .int .i64 i]] w (RowP T w) := by
  have H := Lib.hid h
  clear h
  go_enter Try.func71, Try.ntmps71
  go_wp2_with fail
  refine (H.out _).mono ?_
  rintro e w1 h1
  obtain ⟨v, rfl, h2, h3, h4⟩ := h1.from ((Below.refl _ _).alloc (Nat.le_refl _) _)
  go_wp2
  go_ret
  exact ⟨v, rfl, h2, h3, h4⟩
theorem out_make (op d n m a c i : Int) (T : List Int) (w : World)
    (h : ∀ w, Calls Try.prog 151 #[.agg #[.int .i64 op, .int .i64 d, .int .i64 n, .int .i64 m, .int .i64 a, .int .i64 c, .int .i64 i], .func (.func 186) #[] #[]] w (RowP T w)) :
    Calls Try.prog 149 #[.agg #[.int .i64 op, .int .i64 d, .int .i64 n, .int .i64 m, .int .i64 a, .int .i64 c, .int .i64 i]] w (RowP T w) := by
  have H := Lib.hid h
  clear h
  go_enter Try.func149, Try.ntmps149
  go_wp2_with fail
  refine (H.out _).mono ?_
  rintro e w1 h1
  obtain ⟨v, rfl, h2, h3, h4⟩ := h1.from ((Below.refl _ _).alloc (Nat.le_refl _) _)
  go_wp2
  go_ret
  exact ⟨v, rfl, h2, h3, h4⟩
end Go.Proofs.Ytnbpgoacooddjaa.Fr
