import Derived.Test.YtpiafgmncfibmaaOp
import Derived.Test.YtpiafgmncfibmaaRz
import Derived.Test.YtpiafgmncfibmaaPg
import Derived.Deep.Slices
import Derived.Deep.SlicePairs
import Derived.Deep.Fields
import Derived.SizedLaws
import Derived.Lib.SmallJoins
namespace Go.Proofs.Ytpiafgmncfibmaa
open Go.ChangeShapes Go.WideShapes Go.ChangeAt Go.RowKit Go.Deep Go.Joins
set_option linter.unusedVariables false
section
variable {H : Type} {enc : TypeId × Value → H} {w : World} {base : Nat} {spare : Nat → Bool} {held : Bool}

/-- Bytes that come in. -/
theorem bytes_open {a : Option Addr} {n c : Nat} {d : DataW H} {p : List MemPlace} (h : DataW.Trod enc Try.prog w base spare held 29 (.slice a n c) d p) (hS : Sm 29 d) : ∃ D : Nat → Nat, BytesIn w a n D := by
  obtain ⟨m, hm⟩ := h
  obtain ⟨a', n', c', F, he, ln, rn, wn⟩ := ints_open (t := 29) (e := 5) (bt := 1) Try.underlying29 (by kernel_rfl) (by kernel_rfl) (by decide) Try.underlying5 hm hS
  injection he with h1 h2 h3
  subst h1 h2 h3
  refine ⟨fun i => (F i).toNat, ln, fun i hi => (u8_nat (wn i hi)).2, ?_⟩
  rcases rn with h | ⟨b, o, e1, e2, e3⟩
  · exact .inl h
  · exact .inr ⟨b, o, e1, e2, fun i hi => by rw [e3 i hi]; show some (Value.int .u8 (F i)) = some (Value.int .u8 ((F i).toNat : Int)); rw [(u8_nat (wn i hi)).1]⟩
end
end Go.Proofs.Ytpiafgmncfibmaa
