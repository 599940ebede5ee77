/- LayoutApart (P2201, P2202): for any configuration, place, object and class, the regions are a memory's, each place is in one of them just if the layout says so, they lie side by side, and objects and kinds go there and back: the law returns true, with no condition on the arguments. -/
import Derived.Test.YtapcapcbndooiaaRows
import Derived.WalkKit
import Derived.ProofKit
import Derived.OpenShut
import Derived.ShutString
import Derived.ChangeOld
import Derived.ChangeSame
import Derived.Below
import Derived.Outline
import Derived.Test.YtapcapcbndooiaaApartW
namespace Go.Proofs.Ytapcapcbndooiaa.layoutApart
open Go.ChangeShapes Go.WideShapes Go.ChangeAt Go.RowKit
open Go.ChangeMaps (open_string shut_string)
set_option linter.unusedVariables false

theorem own : ownKnob Try.prog.godebug = none := by kernel_rfl
theorem laidOut : laidOutB Try.prog = true := by kernel_rfl
set_option maxRecDepth 100000 in
/-- A configuration that comes in is five numbers. -/
theorem config_open {H : Type} {enc : TypeId × Value → H} {W : World} {b base : Nat} {spare : Nat → Bool} {held : Bool} {r : Reach} {v : Value} {d : DataW H} {p : List MemPlace}
    (hv : Value.okWide Try.prog W r b 68 v) (h : DataW.Trod enc Try.prog W base spare held 68 v d p) :
    ∃ c0 c1 c2 c3 c4 : Int, v = .agg #[.int .i64 c0, .int .i64 c1, .int .i64 c2, .int .i64 c3, .int .i64 c4] := by
  obtain ⟨⟨l⟩, rfl, hsz⟩ := okWide_struct Try.underlying68 hv
  have hl : l.length = 5 := hsz.trans (by kernel_rfl)
  have k3 : Try.prog.cellsOf 3 = 1 := by kernel_rfl
  obtain ⟨fuel, hf⟩ := h
  obtain ⟨xs, n, _, _, _, hlen, hg⟩ := DataW.trod_struct Try.underlying68 hf
  have key : ∀ j, j < 5 → ∃ c, l[j]? = some (.int .i64 c) := by
    intro j hj
    have hx : ∃ y, xs[j]? = some y := ⟨xs[j]'(by rw [hlen]; exact hj), List.getElem?_eq_getElem _⟩
    obtain ⟨y, hy⟩ := hx
    have h5 : DataW.trod enc Try.prog W base spare held n 3 ((l.drop j).take 1) = some y := by
      have : j = 0 ∨ j = 1 ∨ j = 2 ∨ j = 3 ∨ j = 4 := by omega
      rcases this with rfl | rfl | rfl | rfl | rfl
      · have q : DataW.trod enc Try.prog W base spare held n 3 ((l.drop 0).take (Try.prog.cellsOf 3)) = xs[0]? := hg 0 _ rfl
        rw [k3, hy] at q; exact q
      · have q : DataW.trod enc Try.prog W base spare held n 3 ((l.drop 1).take (Try.prog.cellsOf 3)) = xs[1]? := hg 1 _ rfl
        rw [k3, hy] at q; exact q
      · have q : DataW.trod enc Try.prog W base spare held n 3 ((l.drop 2).take (Try.prog.cellsOf 3)) = xs[2]? := hg 2 _ rfl
        rw [k3, hy] at q; exact q
      · have q : DataW.trod enc Try.prog W base spare held n 3 ((l.drop 3).take (Try.prog.cellsOf 3)) = xs[3]? := hg 3 _ rfl
        rw [k3, hy] at q; exact q
      · have q : DataW.trod enc Try.prog W base spare held n 3 ((l.drop 4).take (Try.prog.cellsOf 3)) = xs[4]? := hg 4 _ rfl
        rw [k3, hy] at q; exact q
    obtain ⟨c, hc, _⟩ := DataW.trod_int Try.underlying3 h5
    refine ⟨c, ?_⟩
    have : ((l.drop j).take 1)[0]? = some (.int .i64 c) := by rw [hc]; rfl
    simpa [List.getElem?_take, List.getElem?_drop] using this
  obtain ⟨c0, h0⟩ := key 0 (by omega)
  obtain ⟨c1, h1⟩ := key 1 (by omega)
  obtain ⟨c2, h2⟩ := key 2 (by omega)
  obtain ⟨c3, h3⟩ := key 3 (by omega)
  obtain ⟨c4, h4⟩ := key 4 (by omega)
  clear hf hg hv hsz key
  match l, hl, h0, h1, h2, h3, h4 with
  | [x0, x1, x2, x3, x4], _, h0, h1, h2, h3, h4 =>
    injection h0 with e0
    injection h1 with e1
    injection h2 with e2
    injection h3 with e3
    injection h4 with e4
    exact ⟨c0, c1, c2, c3, c4, by rw [e0, e1, e2, e3, e4]⟩

theorem walk (c0 c1 c2 c3 c4 a1 a2 a3 : Int) (w : World) (w1 : (Lit.int .u64 a1).wf = true) :
    Calls Try.prog 12 #[.agg #[.int .i64 c0, .int .i64 c1, .int .i64 c2, .int .i64 c3, .int .i64 c4], .int .u64 a1, .int .i64 a2, .int .i64 a3] w fun e w' => e = .returned (.bool true) ∧ Below w.heap.size w w' := by
  obtain ⟨x, rfl⟩ : ∃ x : Nat, a1 = x := ⟨a1.toNat, by simp [Lit.wf, IntKind.min, IntKind.max, IntKind.signed, IntKind.bits] at w1; omega⟩
  have hx : x < 18446744073709551616 := by simp [Lit.wf, IntKind.min, IntKind.max, IntKind.signed, IntKind.bits] at w1; omega
  by_cases h : ok5 c0 c1 c2 c3 c4
  · exact apart_y _ _ _ _ _ _ _ _ _ h hx
  · exact apart_n _ _ _ _ _ _ _ _ _ h hx

/-! ### THE ROW's STEP -/
set_option maxRecDepth 100000 in
theorem lifted (os : Os) (started : os.Started) (H : Type) (enc : TypeId × Value → H) :
    ReturnsInHanded {} Try.checked os 12 .any (Rows.layoutApartSpec.pre6 enc Try.prog Try.f12 Rows.layoutApartRow.domain false) (Rows.layoutApartSpec.post enc Try.prog Try.f12 false true false false) := by
  refine returnsInHanded_of_change (C := Try.checked) own started (by kernel_rfl) Try.func12
    (ChangeSpec.witness6 (enc := enc) (C := Try.checked) false ⟨#[], #[.agg #[.int .i64 0, .int .i64 0, .int .i64 0, .int .i64 0, .int .i64 0], .int .u64 0, .int .i64 0, .int .i64 0], []⟩ 8 (by kernel_rfl) (by kernel_rfl) (by kernel_rfl) (by kernel_rfl)) ?_
  intro W base args ds gs before hval0 hW hcnd _
  have hval : ∀ (j : Nat) t v, Try.f12.params[j]? = some t → args[j]? = some v → Value.okWide Try.prog W .any base t v := hval0
  have hW' := hW
  obtain ⟨p, q, hA0, hV, rfl, hfz, hnd⟩ := hW
  have hA : DataW.TrodAll enc Try.prog W 0 (fun _ => true) true Try.f12.params.toList args.toList ds p := hA0
  rw [Try.params12] at hA hval
  obtain ⟨v0, vs0, d0, ds0, p0, q0, hargs, rfl, rfl, h0, r0⟩ := trodAll_cons hA
  obtain ⟨v1, vs1, d1, ds1, p1, q1, rfl, rfl, rfl, h1, r1⟩ := trodAll_cons r0
  obtain ⟨v2, vs2, d2, ds2, p2, q2, rfl, rfl, rfl, h2, r2⟩ := trodAll_cons r1
  obtain ⟨v3, vs3, d3, ds3, p3, q3, rfl, rfl, rfl, h3, r3⟩ := trodAll_cons r2
  obtain ⟨rfl, rfl, rfl⟩ := trodAll_nil r3
  obtain rfl : args = #[v0, v1, v2, v3] := by cases args; simp_all
  obtain ⟨rfl, rfl⟩ := trodVars_none hV
  obtain ⟨c0, c1, c2, c3, c4, rfl⟩ := config_open (hval 0 68 v0 rfl rfl) h0
  have k0 := h0
  have lt0 : ∀ x ∈ p0, x.block < W.heap.size := by obtain ⟨m, hm⟩ := k0; exact DataW.trod_lt m _ _ _ hm
  obtain ⟨a1, rfl, rfl, rfl, w1⟩ := open_int Try.underlying38 (hval 1 38 v1 rfl rfl) h1
  obtain ⟨a2, rfl, rfl, rfl, w2⟩ := open_int Try.underlying3 (hval 2 3 v2 rfl rfl) h2
  obtain ⟨a3, rfl, rfl, rfl, w3⟩ := open_int Try.underlying3 (hval 3 3 v3 rfl rfl) h3
  clear hA0 hval0
  refine (walk c0 c1 c2 c3 c4 a1 a2 a3 W w1).mono fun e W' ⟨he, bel⟩ => ?_
  subst he
  exact ⟨_, rfl, _, _, _, [], _, [], hW', trodAll_mk1 (shut_bool Try.underlying4 _), (trodAll_cons_mk (Below.trod laidOut (by kernel_rfl) (of_decide_eq_true (by kernel_rfl)) k0 bel lt0) (trodAll_cons_mk (shut_int Try.underlying38 w1) (trodAll_cons_mk (shut_int Try.underlying3 w2) (trodAll_cons_mk (shut_int Try.underlying3 w3) trodAll_mk0)))), rfl, bel.frame _, fun h => by cases h⟩

theorem over : Rows.layoutApartRow.holds Try.pinned (OpenSpec.ofChange Rows.layoutApartSpec) :=
  OpenClaim.holds_of_wide 12 Try.f12 rfl rfl rfl rfl rfl rfl rfl ⟨rfl, rfl, rfl, rfl, rfl⟩ rfl rfl rfl rfl rfl (by kernel_rfl) Try.func12 (by kernel_rfl)
    (of_decide_eq_true (by kernel_rfl)) (by unfold Func.isWrapper; first | (rw [if_pos (by decide +kernel)]; kernel_rfl) | (rw [if_neg (by decide +kernel)]; exact ⟨rfl, rfl⟩))
    (fun os started H enc _ => lifted os started H enc)

/-- THE STATEMENT -/
theorem proved : Rows.LayoutApartSaid := over
#print axioms proved
end Go.Proofs.Ytapcapcbndooiaa.layoutApart
