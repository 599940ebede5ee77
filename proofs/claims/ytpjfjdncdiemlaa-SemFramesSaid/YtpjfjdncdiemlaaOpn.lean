import Derived.Test.YtpjfjdncdiemlaaRows
import Derived.WalkKit
import Derived.ProofKit
import Derived.OpenShut
import Derived.ShutString
import Derived.ChangeOld
import Derived.ChangeSame
import Derived.Below
namespace Go.Proofs.Ytpjfjdncdiemlaa
open Go.ChangeShapes Go.WideShapes Go.ChangeAt Go.RowKit
set_option linter.unusedVariables false
set_option maxRecDepth 100000 in
/-- An instruction that comes in is seven numbers. -/
theorem ins_open {H : Type} {enc : TypeId × Value → H} {W : World} {b base : Nat} {spare : Nat → Bool} {held : Bool} {r : Reach} {v : Value} {d : DataW H} {p : List MemPlace}
    (hv : Value.okWide Try.prog W r b 32 v) (h : DataW.Trod enc Try.prog W base spare held 32 v d p) :
    ∃ c0 c1 c2 c3 c4 c5 c6 : Int, v = .agg #[.int .i64 c0, .int .i64 c1, .int .i64 c2, .int .i64 c3, .int .i64 c4, .int .i64 c5, .int .i64 c6] := by
  obtain ⟨⟨l⟩, rfl, hsz⟩ := okWide_struct Try.underlying32 hv
  have hl : l.length = 7 := hsz.trans (by kernel_rfl)
  have k3 : Try.prog.cellsOf 3 = 1 := by kernel_rfl
  have k2 : Try.prog.cellsOf 2 = 1 := by kernel_rfl
  obtain ⟨fuel, hf⟩ := h
  obtain ⟨xs, n, _, _, _, hlen, hg⟩ := DataW.trod_struct Try.underlying32 hf
  have hx : ∀ j, j < 7 → ∃ y, xs[j]? = some y := fun j hj => ⟨xs[j]'(by rw [hlen]; exact hj), List.getElem?_eq_getElem _⟩
  obtain ⟨c0, h0⟩ : ∃ c, l[0]? = some (.int .i64 c) := by
    obtain ⟨y, hy⟩ := hx 0 (by decide)
    have q : DataW.trod enc Try.prog W base spare held n 3 ((l.drop 0).take (Try.prog.cellsOf 3)) = xs[0]? := hg 0 _ rfl
    rw [k3, hy] at q
    obtain ⟨c, hc, _⟩ := DataW.trod_int Try.underlying3 q
    refine ⟨c, ?_⟩
    have : ((l.drop 0).take 1)[0]? = some (.int .i64 c) := by rw [hc]; rfl
    simpa [List.getElem?_take, List.getElem?_drop] using this
  obtain ⟨c1, h1⟩ : ∃ c, l[1]? = some (.int .i64 c) := by
    obtain ⟨y, hy⟩ := hx 1 (by decide)
    have q : DataW.trod enc Try.prog W base spare held n 3 ((l.drop 1).take (Try.prog.cellsOf 3)) = xs[1]? := hg 1 _ rfl
    rw [k3, hy] at q
    obtain ⟨c, hc, _⟩ := DataW.trod_int Try.underlying3 q
    refine ⟨c, ?_⟩
    have : ((l.drop 1).take 1)[0]? = some (.int .i64 c) := by rw [hc]; rfl
    simpa [List.getElem?_take, List.getElem?_drop] using this
  obtain ⟨c2, h2⟩ : ∃ c, l[2]? = some (.int .i64 c) := by
    obtain ⟨y, hy⟩ := hx 2 (by decide)
    have q : DataW.trod enc Try.prog W base spare held n 3 ((l.drop 2).take (Try.prog.cellsOf 3)) = xs[2]? := hg 2 _ rfl
    rw [k3, hy] at q
    obtain ⟨c, hc, _⟩ := DataW.trod_int Try.underlying3 q
    refine ⟨c, ?_⟩
    have : ((l.drop 2).take 1)[0]? = some (.int .i64 c) := by rw [hc]; rfl
    simpa [List.getElem?_take, List.getElem?_drop] using this
  obtain ⟨c3, h3⟩ : ∃ c, l[3]? = some (.int .i64 c) := by
    obtain ⟨y, hy⟩ := hx 3 (by decide)
    have q : DataW.trod enc Try.prog W base spare held n 3 ((l.drop 3).take (Try.prog.cellsOf 3)) = xs[3]? := hg 3 _ rfl
    rw [k3, hy] at q
    obtain ⟨c, hc, _⟩ := DataW.trod_int Try.underlying3 q
    refine ⟨c, ?_⟩
    have : ((l.drop 3).take 1)[0]? = some (.int .i64 c) := by rw [hc]; rfl
    simpa [List.getElem?_take, List.getElem?_drop] using this
  obtain ⟨c4, h4⟩ : ∃ c, l[4]? = some (.int .i64 c) := by
    obtain ⟨y, hy⟩ := hx 4 (by decide)
    have q : DataW.trod enc Try.prog W base spare held n 3 ((l.drop 4).take (Try.prog.cellsOf 3)) = xs[4]? := hg 4 _ rfl
    rw [k3, hy] at q
    obtain ⟨c, hc, _⟩ := DataW.trod_int Try.underlying3 q
    refine ⟨c, ?_⟩
    have : ((l.drop 4).take 1)[0]? = some (.int .i64 c) := by rw [hc]; rfl
    simpa [List.getElem?_take, List.getElem?_drop] using this
  obtain ⟨c5, h5⟩ : ∃ c, l[5]? = some (.int .i64 c) := by
    obtain ⟨y, hy⟩ := hx 5 (by decide)
    have q : DataW.trod enc Try.prog W base spare held n 3 ((l.drop 5).take (Try.prog.cellsOf 3)) = xs[5]? := hg 5 _ rfl
    rw [k3, hy] at q
    obtain ⟨c, hc, _⟩ := DataW.trod_int Try.underlying3 q
    refine ⟨c, ?_⟩
    have : ((l.drop 5).take 1)[0]? = some (.int .i64 c) := by rw [hc]; rfl
    simpa [List.getElem?_take, List.getElem?_drop] using this
  obtain ⟨c6, h6⟩ : ∃ c, l[6]? = some (.int .i64 c) := by
    obtain ⟨y, hy⟩ := hx 6 (by decide)
    have q : DataW.trod enc Try.prog W base spare held n 2 ((l.drop 6).take (Try.prog.cellsOf 2)) = xs[6]? := hg 6 _ rfl
    rw [k2, hy] at q
    obtain ⟨c, hc, _⟩ := DataW.trod_int Try.underlying2 q
    refine ⟨c, ?_⟩
    have : ((l.drop 6).take 1)[0]? = some (.int .i64 c) := by rw [hc]; rfl
    simpa [List.getElem?_take, List.getElem?_drop] using this
  clear hf hg hv hsz hx
  match l, hl, h0, h1, h2, h3, h4, h5, h6 with
  | [x0, x1, x2, x3, x4, x5, x6], _, h0, h1, h2, h3, h4, h5, h6 =>
    injection h0 with e0
    injection h1 with e1
    injection h2 with e2
    injection h3 with e3
    injection h4 with e4
    injection h5 with e5
    injection h6 with e6
    exact ⟨c0, c1, c2, c3, c4, c5, c6, by rw [e0, e1, e2, e3, e4, e5, e6]⟩
end Go.Proofs.Ytpjfjdncdiemlaa
