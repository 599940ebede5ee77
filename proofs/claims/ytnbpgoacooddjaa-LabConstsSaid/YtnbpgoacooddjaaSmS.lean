import Derived.Test.YtnbpgoacooddjaaRows
import Derived.WalkKit
import Derived.ProofKit
import Derived.OpenShut
import Derived.ShutString
import Derived.ChangeOld
import Derived.Below
import Derived.ChangeSame
import Derived.Lib.Hide
import Derived.Deep.AppendLies
import Derived.WalkSmall
import Derived.Test.YtnbpgoacooddjaaSmA
namespace Go.Proofs.Ytnbpgoacooddjaa
open Go.ChangeShapes Go.WideShapes Go.ChangeAt Go.RowKit
open Go.ChangeMaps (open_string shut_string)
set_option linter.unusedVariables false


def Rg.within (r : Rg) : Prop := (∀ i, i < 31 → 0 ≤ r.x i ∧ r.x i < 18446744073709551616) ∧ 0 ≤ r.sp ∧ r.sp < 18446744073709551616
theorem u64_bds {a : Int} (h : (Lit.int .u64 a).wf = true) : 0 ≤ a ∧ a < 18446744073709551616 := by
  simp [Lit.wf, IntKind.min, IntKind.max, IntKind.signed, IntKind.bits] at h; omega
def intAt (l : List Value) (i : Nat) : Int := match l[i]? with
  | some (.int _ n) => n
  | _ => 0
def boolAt (l : List Value) (i : Nat) : Bool := match l[i]? with
  | some (.bool b) => b
  | _ => false
set_option maxRecDepth 100000 in
/-- Registers that come in. -/
theorem regs_open {H : Type} {enc : TypeId × Value → H} {W : World} {b base : Nat} {spare : Nat → Bool} {held : Bool} {rc : Reach} {v : Value} {d : DataW H} {p : List MemPlace}
    (hv : Value.okWide Try.prog W rc b 26 v) (h : DataW.Trod enc Try.prog W base spare held 26 v d p) :
    ∃ r : Rg, r.within ∧ v = .agg r.arr := by
  obtain ⟨⟨l⟩, rfl, hsz⟩ := okWide_struct Try.underlying26 hv
  have hl : l.length = 36 := hsz.trans (by kernel_rfl)
  obtain ⟨fuel, hf⟩ := h
  obtain ⟨xs, n, _, _, _, hlen, hg⟩ := DataW.trod_struct Try.underlying26 hf
  have hlen' : xs.length = 6 := hlen
  have some_of : ∀ j, j < 6 → ∃ y, xs[j]? = some y := fun j hj => ⟨xs[j]'(by omega), List.getElem?_eq_getElem _⟩
  have c23 : Try.prog.cellsOf 24 = 31 := by kernel_rfl
  have c22 : Try.prog.cellsOf 23 = 1 := by kernel_rfl
  have c4 : Try.prog.cellsOf 4 = 1 := by kernel_rfl
  have kx : ∀ i, i < 31 → ∃ z, l[i]? = some (.int .u64 z) ∧ 0 ≤ z ∧ z < 18446744073709551616 := by
    obtain ⟨y, hy⟩ := some_of 0 (by decide)
    have q : DataW.trod enc Try.prog W base spare held n 24 ((l.drop 0).take (Try.prog.cellsOf 24)) = xs[0]? := hg 0 _ rfl
    rw [c23, hy] at q
    obtain ⟨ys, m, _, _, _, hyl, hyg⟩ := DataW.trod_array Try.underlying24 q
    intro i hi
    have q2 := hyg i hi
    rw [c22, Nat.mul_one, List.getElem?_eq_getElem (by omega)] at q2
    obtain ⟨z, hz, _, hw⟩ := DataW.trod_int Try.underlying23 q2
    refine ⟨z, ?_, u64_bds hw⟩
    have h0 : ((((l.drop 0).take 31).drop i).take 1)[0]? = some (.int .u64 z) := by rw [hz]; rfl
    simpa [List.getElem?_take, List.getElem?_drop, hi] using h0
  have ks : ∃ z, l[31]? = some (.int .u64 z) ∧ 0 ≤ z ∧ z < 18446744073709551616 := by
    obtain ⟨y, hy⟩ := some_of 1 (by decide)
    have q : DataW.trod enc Try.prog W base spare held n 23 ((l.drop 31).take (Try.prog.cellsOf 23)) = xs[1]? := hg 1 _ rfl
    rw [c22, hy] at q
    obtain ⟨z, hz, _, hw⟩ := DataW.trod_int Try.underlying23 q
    refine ⟨z, ?_, u64_bds hw⟩
    have h0 : ((l.drop 31).take 1)[0]? = some (.int .u64 z) := by rw [hz]; rfl
    simpa [List.getElem?_take, List.getElem?_drop] using h0
  have kb : ∀ j, 2 ≤ j → j < 6 → ∃ z, l[30 + j]? = some (.bool z) := by
    intro j h2 h6
    obtain ⟨y, hy⟩ := some_of j h6
    have q : DataW.trod enc Try.prog W base spare held n 4 ((l.drop (30 + j)).take 1) = some y := by
      have : j = 2 ∨ j = 3 ∨ j = 4 ∨ j = 5 := by omega
      rcases this with rfl | rfl | rfl | rfl
      · have q : DataW.trod enc Try.prog W base spare held n 4 ((l.drop 32).take (Try.prog.cellsOf 4)) = xs[2]? := hg 2 _ rfl
        rw [c4, hy] at q; exact q
      · have q : DataW.trod enc Try.prog W base spare held n 4 ((l.drop 33).take (Try.prog.cellsOf 4)) = xs[3]? := hg 3 _ rfl
        rw [c4, hy] at q; exact q
      · have q : DataW.trod enc Try.prog W base spare held n 4 ((l.drop 34).take (Try.prog.cellsOf 4)) = xs[4]? := hg 4 _ rfl
        rw [c4, hy] at q; exact q
      · have q : DataW.trod enc Try.prog W base spare held n 4 ((l.drop 35).take (Try.prog.cellsOf 4)) = xs[5]? := hg 5 _ rfl
        rw [c4, hy] at q; exact q
    obtain ⟨z, hz, _⟩ := DataW.trod_bool Try.underlying4 q
    refine ⟨z, ?_⟩
    have h0 : ((l.drop (30 + j)).take 1)[0]? = some (.bool z) := by rw [hz]; rfl
    simpa [List.getElem?_take, List.getElem?_drop] using h0
  obtain ⟨sp, hsp, sp1, sp2⟩ := ks
  obtain ⟨bn, hn⟩ := kb 2 (by decide) (by decide)
  obtain ⟨bz, hz⟩ := kb 3 (by decide) (by decide)
  obtain ⟨bc, hc⟩ := kb 4 (by decide) (by decide)
  obtain ⟨bv, hv'⟩ := kb 5 (by decide) (by decide)
  refine ⟨⟨intAt l, sp, bn, bz, bc, bv⟩, ⟨fun i hi => ?_, sp1, sp2⟩, ?_⟩
  · obtain ⟨z, h1, h2, h3⟩ := kx i hi
    have : intAt l i = z := by unfold intAt; rw [h1]
    show 0 ≤ intAt l i ∧ intAt l i < _
    omega
  · congr 1
    apply Array.ext_getElem?
    intro k
    rw [show (⟨l⟩ : Array Value)[k]? = l[k]? by simp]
    rcases Nat.lt_or_ge k 31 with hk | hk
    · rw [Rg.at _ k hk]
      obtain ⟨z, h1, h2, h3⟩ := kx k hk
      show l[k]? = some (.int .u64 (intAt l k))
      have : intAt l k = z := by unfold intAt; rw [h1]
      rw [this, h1]
    · rcases Nat.lt_or_ge k 36 with hk2 | hk2
      · rcases (show k = 31 ∨ k = 32 ∨ k = 33 ∨ k = 34 ∨ k = 35 by omega) with rfl | rfl | rfl | rfl | rfl
        · rw [Rg.at31]; exact hsp
        · rw [Rg.at32]; exact hn
        · rw [Rg.at33]; exact hz
        · rw [Rg.at34]; exact hc
        · rw [Rg.at35]; exact hv'
      · rw [List.getElem?_eq_none (by omega), Array.getElem?_eq_none (by rw [Rg.size]; omega)]
end Go.Proofs.Ytnbpgoacooddjaa
