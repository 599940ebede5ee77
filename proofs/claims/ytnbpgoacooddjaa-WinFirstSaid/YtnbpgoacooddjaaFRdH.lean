import Derived.Test.YtnbpgoacooddjaaFReg
namespace Go.Proofs.Ytnbpgoacooddjaa.Fr
open Go.RowKit Go.Shelf
set_option linter.unusedVariables false
attribute [local go_sem] Oper.semAt_some
theorem InsAt.below' {w W w' : World} {b : Nat} {a0 a1 a2 a3 a4 a5 a6 : Value} (h : InsAt w b a0 a1 a2 a3 a4 a5 a6) (hb : Below W.heap.size W w') (he : W.heap = w.heap) : InsAt w' b a0 a1 a2 a3 a4 a5 a6 := by
  have hc : ∀ i, W.cell? ⟨b, i, none⟩ = w.cell? ⟨b, i, none⟩ := fun i => by unfold World.cell?; rw [he]
  have hbW : b < W.heap.size := by rw [he]; exact h.1
  obtain ⟨h0, c0, c1, c2, c3, c4, c5, c6⟩ := h
  have k : ∀ i, w'.cell? ⟨b, i, none⟩ = w.cell? ⟨b, i, none⟩ := fun i => (hb.cell (p := ⟨b, i, none⟩) hbW).trans (hc i)
  exact ⟨Nat.lt_of_lt_of_le hbW hb.size, (k 0).trans c0, (k 1).trans c1, (k 2).trans c2, (k 3).trans c3, (k 4).trans c4, (k 5).trans c5, (k 6).trans c6⟩
theorem InsAt.kp {w w' : World} {b : Nat} {a0 a1 a2 a3 a4 a5 a6 : Value} (h : InsAt w b a0 a1 a2 a3 a4 a5 a6) (hk : KpI b w w') : InsAt w' b a0 a1 a2 a3 a4 a5 a6 := by
  obtain ⟨h0, c0, c1, c2, c3, c4, c5, c6⟩ := h
  obtain ⟨k0, k⟩ := hk h0
  exact ⟨k0, (k 0).trans c0, (k 1).trans c1, (k 2).trans c2, (k 3).trans c3, (k 4).trans c4, (k 5).trans c5, (k 6).trans c6⟩
theorem grown_none {w w' : World} (h : Below w.heap.size w w') : w.grownBy w' none := ⟨h.os, h.tape, h.output, h.size, fun k hk _ => h.block k hk⟩
theorem wpListIn_skipW {n : Nat} {P : Program} {ops : Array Oper} {Q : Exit → Act → World → Prop} {a : Act} {w : World} {rest : List Oper} {o : Oper} (hw : Region.wanted o (yielded ops a.tmps) = false) (h : wpListIn Fence.wide n P ops Q rest (a.put o.dst undef) w) :
    wpListIn Fence.wide n P ops Q (o :: rest) a w := by
  simp only [wpListIn, hw]
  exact ⟨fun _ _ => trivial, h⟩
/-- Register N where 31 is SP. -/
def spOr (n : Int) : Int := if n = 31 then 32 else n
/-- read lays the instruction and hands the teller back. -/
theorem read_make (op d n m a c i : Int) (w : World) : Calls Try.prog 152 #[.agg #[.int .i64 op, .int .i64 d, .int .i64 n, .int .i64 m, .int .i64 a, .int .i64 c, .int .i64 i]] w fun e w' => e = .returned (.func (.func 189) #[] #[.pointer (some ⟨w.heap.size, 0, none⟩)]) ∧ w' = w.alloc (.cells #[.int .i64 op, .int .i64 d, .int .i64 n, .int .i64 m, .int .i64 a, .int .i64 c, .int .i64 i] 29) := by
  go_enter Try.func152, Try.ntmps152
  go_wp2
  go_ret
  exact ⟨rfl, rfl⟩
end Go.Proofs.Ytnbpgoacooddjaa.Fr
