import Derived.Test.YtnmgafaebggeiaaSa
import Derived.DeepKeys4
namespace Go.Proofs.Ytnmgafaebggeiaa.St
open Go.ChangeShapes Go.WideShapes Go.ChangeAt Go.RowKit Go.Maps
set_option linter.unusedVariables false
/-! ### Clocks, and maps of them -/
structure Ck where
  a : Int
  b : Int
  c : Int
  d : Int
def Ck.v (x : Ck) : Value := .agg #[.int .i64 x.a, .int .i64 x.b, .int .i64 x.c, .int .i64 x.d]
def Ck.cs (x : Ck) : List Value := [.int .i64 x.a, .int .i64 x.b, .int .i64 x.c, .int .i64 x.d]
def Ck.zero : Ck := ⟨0, 0, 0, 0⟩
def Ck.dt (x : Ck) : DataW Unit := .agg [.lit (.int .i64 x.a), .lit (.int .i64 x.b), .lit (.int .i64 x.c), .lit (.int .i64 x.d)]
theorem dt_inj {x y : Ck} (h : x.dt = y.dt) : x = y := by
  unfold Ck.dt at h
  simp at h
  obtain ⟨h1, h2, h3, h4⟩ := h
  cases x
  cases y
  simp_all
def ckL : List Value → Option (DataW Unit × List MemPlace)
  | [.int .i64 a, .int .i64 b, .int .i64 c, .int .i64 d] => some ((⟨a, b, c, d⟩ : Ck).dt, [])
  | _ => none
def ckR : Value → Option (DataW Unit × List MemPlace)
  | .agg cs => ckL cs.toList
  | _ => none
theorem ckR_mk (x : Ck) : ckR x.v = some (x.dt, []) := rfl
theorem ckR_inv {v : Value} {x : Ck} {ps : List MemPlace} (h : ckR v = some (x.dt, ps)) : v = x.v := by
  cases v with
  | agg cs =>
    obtain ⟨l⟩ := cs
    have h : ckL l = some (x.dt, ps) := h
    unfold ckL at h
    split at h
    · injection h with h
      injection h with h _
      rw [← dt_inj h]
      rfl
    · cases h
  | _ => cases h
theorem zero24 (w : World) : (zeroValue 24).run Try.prog w = .ok Ck.zero.v w := by kernel_rfl
def Wf (c : Int) : Prop := -9223372036854775808 ≤ c ∧ c ≤ 9223372036854775807
theorem wf_lit {c : Int} (h : Wf c) : (Lit.int .i64 c).wf = true := by
  obtain ⟨h1, h2⟩ := h
  simp [Lit.wf, IntKind.min, IntKind.max, IntKind.signed, IntKind.bits]
  omega
theorem klaw3 : Keyed Try.prog 3 := int_keyed Try.underlying3
theorem kl3 {c : Int} (h : Wf c) : keyOf Try.prog 3 (.int .i64 c) = some (.int .i64 c) := keyOf_int_mk Try.underlying3 (wf_lit h)
/-- A map from an int to a clock; where nothing is laid: zeros. -/
def MpE (w : World) (b N : Nat) (F : Int → Ck) : Prop := ∃ D, w.ownsMap Try.prog 3 ckR b N D ∧ ∀ c, Wf c → D.atKey (.int .i64 c) Ck.zero.dt = (F c).dt
theorem MpE.lt {w : World} {b N : Nat} {F : Int → Ck} (h : MpE w b N F) : b < w.heap.size := by
  obtain ⟨D, h, _⟩ := h
  exact h.lt
theorem MpE.kept {w w' : World} {b N : Nat} {F : Int → Ck} (h : MpE w b N F) (hk : w'.heap[b]? = w.heap[b]?) : MpE w' b N F := by
  obtain ⟨D, ⟨es, clock, h1, h2⟩, h5⟩ := h
  exact ⟨D, ⟨es, clock, hk.trans h1, h2⟩, h5⟩
theorem MpE.made (w : World) : MpE (w.alloc (.map #[] 0)) w.heap.size 0 (fun _ => Ck.zero) :=
  ⟨_, World.ownsMap_made _ _ _ _, fun c _ => by rw [Maps.atKey_of_not_has (by simp [Maps.has])]⟩
theorem MpE.look {w : World} {b N : Nat} {F : Int → Ck} (h : MpE w b N F) {c : Int} (hc : Wf c) : (Instr.lookup 55 (.map (some b)) (.int .i64 c) false).run Try.prog w = .ok (F c).v w := by
  obtain ⟨D, h1, h2⟩ := h
  obtain ⟨v, ps, hrun, hv⟩ := h1.lookup klaw3 Try.underlying55 (zero24 w) (ckR_mk _) (kl3 hc)
  rw [h2 c hc] at hv
  rw [hrun, ckR_inv hv]
theorem MpE.put {w : World} {b N : Nat} {F : Int → Ck} (h : MpE w b N F) (hn : N < maxLen) {c : Int} (hc : Wf c) (x : Ck) :
    ∃ w', (Instr.mapUpdate 55 (.map (some b)) (.int .i64 c) x.v).run Try.prog w = .ok () w' ∧ MpE w' b (N + 1) (fun k => if k = c then x else F k) ∧ w.grownBy w' (some b) := by
  obtain ⟨D, h1, h2⟩ := h
  obtain ⟨w', hrun, h3, h4⟩ := h1.update klaw3 Try.underlying55 hn (kl3 hc) (ckR_mk x)
  refine ⟨w', hrun, ⟨_, h3, fun k hk => ?_⟩, h4⟩
  show _ = (if k = c then x else F k).dt
  by_cases e : k = c
  · rw [if_pos e, e, Maps.atKey_put_same h1.isMap (klaw3.key (kl3 hc))]
  · rw [if_neg e, Maps.atKey_put_other (fun h => e (by injection h)), h2 k hk]
/-! ### by two ints -/
theorem laidOutS : laidOutB Try.prog = true := by kernel_rfl
theorem row70 : (70 : TypeId) < Try.prog.types.size := of_decide_eq_true (by kernel_rfl)
theorem wide70 : (match Try.prog.underlying 70 with | some (.array _ _) | some (.struct _) => true | _ => false) = true := by kernel_rfl
set_option maxRecDepth 100000 in
theorem klaw70 : Keyed Try.prog 70 := Keyed.of_law (deep_law_laid laidOutS (m := 2) (by omega) row70 (by kernel_rfl) wide70)
theorem kty70 : Try.prog.keyType 70 = true := by kernel_rfl
theorem cells3 : Try.prog.cellsOf 3 = 1 := by kernel_rfl
theorem cells70 : Try.prog.cellsOf 70 = 2 := by kernel_rfl
def pk (c d : Int) : Value := .agg #[.int .i64 c, .int .i64 d]
theorem key_ok {c d : Int} (h1 : Wf c) (h2 : Wf d) : ∃ l, keyOf Try.prog 70 (pk c d) = some l := by
  obtain ⟨fs, hu⟩ : ∃ fs, Try.prog.underlying 70 = some (.struct fs) := ⟨_, Try.underlying70⟩
  have hf : (pk c d).formed Try.prog 70 = true := by simp [Value.formed, pk, hu, cells70]
  have hw1 := wf_lit h1
  have hw2 := wf_lit h2
  have : keyOf Try.prog 70 (pk c d) = (Try.prog.keyLits (Try.prog.types.size + 1) 70 (pk c d).cells.toList).map fun ls => .string (keyBytes ls) := by
    unfold keyOf
    rw [hu]
    simp [kty70, hf]
  rw [this]
  obtain ⟨n, hn⟩ : ∃ n, Try.prog.types.size = n + 1 := ⟨Try.prog.types.size - 1, by have := row70; have : (70 : Nat) < Try.prog.types.size := this; omega⟩
  rw [hn]
  have hc : (pk c d).cells.toList = [.int .i64 c, .int .i64 d] := by simp [pk, Value.cells]
  rw [hc]
  simp [Program.keyLits, Try.underlying70, Try.underlying3, cells70, cells3, hw1, hw2]
noncomputable def kl (c d : Int) : Lit := (keyOf Try.prog 70 (pk c d)).getD (.string [])
theorem kl_eq {c d : Int} (h1 : Wf c) (h2 : Wf d) : keyOf Try.prog 70 (pk c d) = some (kl c d) := by
  obtain ⟨l, hl⟩ := key_ok h1 h2
  unfold kl
  rw [hl]
  rfl
theorem kl_ne {c d c' d' : Int} (h1 : Wf c) (h2 : Wf d) (h3 : Wf c') (h4 : Wf d') (hne : ¬ (c' = c ∧ d' = d)) : kl c' d' ≠ kl c d := fun e => by
  have e1 := kl_eq h1 h2
  have e2 := kl_eq h3 h4
  rw [e] at e2
  have h := klaw70.inj e1 e2
  unfold pk at h
  simp at h
  omega
def MpW (w : World) (b N : Nat) (F : Int → Int → Ck) : Prop := ∃ D, w.ownsMap Try.prog 70 ckR b N D ∧ ∀ c d, Wf c → Wf d → D.atKey (kl c d) Ck.zero.dt = (F c d).dt
theorem MpW.lt {w : World} {b N : Nat} {F : Int → Int → Ck} (h : MpW w b N F) : b < w.heap.size := by
  obtain ⟨D, h, _⟩ := h
  exact h.lt
theorem MpW.kept {w w' : World} {b N : Nat} {F : Int → Int → Ck} (h : MpW w b N F) (hk : w'.heap[b]? = w.heap[b]?) : MpW w' b N F := by
  obtain ⟨D, ⟨es, clock, h1, h2⟩, h5⟩ := h
  exact ⟨D, ⟨es, clock, hk.trans h1, h2⟩, h5⟩
theorem MpW.made (w : World) : MpW (w.alloc (.map #[] 0)) w.heap.size 0 (fun _ _ => Ck.zero) :=
  ⟨_, World.ownsMap_made _ _ _ _, fun c d _ _ => by rw [Maps.atKey_of_not_has (by simp [Maps.has])]⟩
theorem MpW.look {w : World} {b N : Nat} {F : Int → Int → Ck} (h : MpW w b N F) {c d : Int} (hc : Wf c) (hd : Wf d) : (Instr.lookup 56 (.map (some b)) (pk c d) false).run Try.prog w = .ok (F c d).v w := by
  obtain ⟨D, h1, h2⟩ := h
  obtain ⟨v, ps, hrun, hv⟩ := h1.lookup klaw70 Try.underlying56 (zero24 w) (ckR_mk _) (kl_eq hc hd)
  rw [h2 c d hc hd] at hv
  rw [hrun, ckR_inv hv]
theorem MpW.put {w : World} {b N : Nat} {F : Int → Int → Ck} (h : MpW w b N F) (hn : N < maxLen) {c d : Int} (hc : Wf c) (hd : Wf d) (x : Ck) :
    ∃ w', (Instr.mapUpdate 56 (.map (some b)) (pk c d) x.v).run Try.prog w = .ok () w' ∧ MpW w' b (N + 1) (fun k l => if k = c ∧ l = d then x else F k l) ∧ w.grownBy w' (some b) := by
  obtain ⟨D, h1, h2⟩ := h
  obtain ⟨w', hrun, h3, h4⟩ := h1.update klaw70 Try.underlying56 hn (kl_eq hc hd) (ckR_mk x)
  refine ⟨w', hrun, ⟨_, h3, fun k l hk hl => ?_⟩, h4⟩
  show _ = (if k = c ∧ l = d then x else F k l).dt
  by_cases e : k = c ∧ l = d
  · rw [if_pos e, e.1, e.2, Maps.atKey_put_same h1.isMap (klaw70.key (kl_eq hc hd))]
  · rw [if_neg e, Maps.atKey_put_other (kl_ne hc hd hk hl e), h2 k l hk hl]
end Go.Proofs.Ytnmgafaebggeiaa.St
