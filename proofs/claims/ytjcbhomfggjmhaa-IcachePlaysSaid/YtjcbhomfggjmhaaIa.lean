import Derived.Test.YtjcbhomfggjmhaaNa
import Derived.Maps.OwnSet
import Derived.Maps.RangeWalk
import Derived.DeepKeys4
namespace Go.Proofs.Ytjcbhomfggjmhaa.Mm
open Go.ChangeShapes Go.WideShapes Go.ChangeAt Go.RowKit Go.Maps
set_option linter.unusedVariables false
/-! ### Maps from a core and a place to a word -/
theorem laidOutI : laidOutB Try.prog = true := by kernel_rfl
theorem row195 : (100 : TypeId) < Try.prog.types.size := of_decide_eq_true (by kernel_rfl)
theorem wide195 : (match Try.prog.underlying 100 with | some (.array _ _) | some (.struct _) => true | _ => false) = true := by kernel_rfl
set_option maxRecDepth 100000 in
theorem klaw : Keyed Try.prog 100 := Keyed.of_law (deep_law_laid laidOutI (m := 2) (by omega) row195 (by kernel_rfl) wide195)
theorem kty195 : Try.prog.keyType 100 = true := by kernel_rfl
theorem cells3 : Try.prog.cellsOf 3 = 1 := by kernel_rfl
theorem cells23 : Try.prog.cellsOf 35 = 1 := by kernel_rfl
theorem cells195 : Try.prog.cellsOf 100 = 2 := by kernel_rfl
def pk (c : Int) (a : Nat) : Value := .agg #[.int .i64 c, .int .u64 (a : Nat)]
def Okk (c : Int) (a : Nat) : Prop := -9223372036854775808 ≤ c ∧ c ≤ 9223372036854775807 ∧ a < 18446744073709551616
theorem zero54 (w : World) : (zeroValue 50).run Try.prog w = .ok (.int .u32 0) w := by kernel_rfl
theorem key_ok {c : Int} {a : Nat} (h : Okk c a) : ∃ l, keyOf Try.prog 100 (pk c a) = some l := by
  obtain ⟨fs, hu⟩ : ∃ fs, Try.prog.underlying 100 = some (.struct fs) := ⟨_, Try.underlying100⟩
  have hf : (pk c a).formed Try.prog 100 = true := by simp [Value.formed, pk, hu, cells195]
  obtain ⟨h1, h2, h3⟩ := h
  have hw1 : (Lit.int .i64 c).wf = true := by simp [Lit.wf, IntKind.min, IntKind.max, IntKind.signed, IntKind.bits]; omega
  have hw2 : (Lit.int .u64 (a : Nat)).wf = true := by simp [Lit.wf, IntKind.min, IntKind.max, IntKind.signed, IntKind.bits]; omega
  have : keyOf Try.prog 100 (pk c a) = (Try.prog.keyLits (Try.prog.types.size + 1) 100 (pk c a).cells.toList).map fun ls => .string (keyBytes ls) := by
    unfold keyOf
    rw [hu]
    simp [kty195, hf]
  rw [this]
  obtain ⟨d, hd⟩ : ∃ d, Try.prog.types.size = d + 1 := ⟨Try.prog.types.size - 1, by have := row195; have : (100 : Nat) < Try.prog.types.size := this; omega⟩
  rw [hd]
  have hc : (pk c a).cells.toList = [.int .i64 c, .int .u64 (a : Nat)] := by simp [pk, Value.cells]
  rw [hc]
  simp [Program.keyLits, Try.underlying100, Try.underlying3, Try.underlying35, cells195, cells3, cells23, hw1, hw2]
noncomputable def kl (c : Int) (a : Nat) : Lit := (keyOf Try.prog 100 (pk c a)).getD (.string [])
theorem kl_eq {c : Int} {a : Nat} (h : Okk c a) : keyOf Try.prog 100 (pk c a) = some (kl c a) := by
  obtain ⟨l, hl⟩ := key_ok h
  unfold kl
  rw [hl]
  rfl
theorem kl_ne {c c' : Int} {a a' : Nat} (h : Okk c a) (h' : Okk c' a') (hne : ¬ (c' = c ∧ a' = a)) : kl c' a' ≠ kl c a := fun e => by
  have h1 := kl_eq h
  have h2 := kl_eq h'
  rw [e] at h2
  have h3 := klaw.inj h1 h2
  unfold pk at h3
  simp at h3
  omega
def litNat : DataW Unit → Nat
  | .lit (.int _ x) => x.toNat
  | _ => 0
noncomputable def look (D : DataW Unit) (c : Int) (a : Nat) : Option Nat := if Maps.has D (kl c a) = true then some (litNat (D.atKey (kl c a) (.lit (.int .u32 0)))) else none
def upd (F : Int → Nat → Option Nat) (c : Int) (a : Nat) (v : Option Nat) : Int → Nat → Option Nat := fun c' a' => if c' = c ∧ a' = a then v else F c' a'
/-- A block that is a map of at most so many entries, from a core and a place to a word. -/
def MpAt (w : World) (b N : Nat) (F : Int → Nat → Option Nat) : Prop := ∃ D, w.ownsMap Try.prog 100 (plainElem (H := Unit) Try.prog 50) b N D ∧ ∀ c a, Okk c a → look D c a = F c a
theorem MpAt.lt {w : World} {b N : Nat} {F : Int → Nat → Option Nat} (h : MpAt w b N F) : b < w.heap.size := by
  obtain ⟨D, h, _⟩ := h
  exact h.lt
theorem MpAt.more {w : World} {b N N' : Nat} {F : Int → Nat → Option Nat} (h : MpAt w b N F) (hn : N ≤ N') : MpAt w b N' F := by
  obtain ⟨D, h, h2⟩ := h
  exact ⟨D, h.mono hn, h2⟩
theorem MpAt.kept {w w' : World} {b N : Nat} {F : Int → Nat → Option Nat} (h : MpAt w b N F) (hk : w'.heap[b]? = w.heap[b]?) : MpAt w' b N F := by
  obtain ⟨D, ⟨es, clock, h1, h2, h3, h4⟩, h5⟩ := h
  exact ⟨D, ⟨es, clock, hk.trans h1, h2, h3, h4⟩, h5⟩
theorem MpAt.made (w : World) : MpAt (w.alloc (.map #[] 0)) w.heap.size 0 (fun _ _ => none) :=
  ⟨_, World.ownsMap_made _ _ _ _, fun c a _ => by unfold look; simp [Maps.has]⟩
set_option maxRecDepth 100000 in
/-- What a look-up tells. -/
theorem MpAt.look {w : World} {b N : Nat} {F : Int → Nat → Option Nat} (h : MpAt w b N F) {c : Int} {a : Nat} (hk : Okk c a) :
    (∀ x, F c a = some x → x < 4294967296) ∧ (Instr.lookup 77 (.map (some b)) (pk c a) true).run Try.prog w = .ok (.tuple #[.int .u32 ((F c a).getD 0 : Nat), .bool (F c a).isSome]) w := by
  obtain ⟨D, h1, h2⟩ := h
  obtain ⟨v, ps, hrun, hv⟩ := h1.look_ok klaw Try.underlying77 (zero54 w) (plainElem_int Try.underlying50 (by decide)) (kl_eq hk)
  obtain ⟨x, rfl, hx, hw⟩ := plainElem_int_inv Try.underlying50 hv
  have hx2 := congrArg Prod.fst hx
  have hx2 : D.atKey (kl c a) (.lit (.int .u32 0)) = .lit (.int .u32 x) := hx2
  have hb : 0 ≤ x ∧ x < 4294967296 := by
    simp [Lit.wf, IntKind.min, IntKind.max, IntKind.signed, IntKind.bits] at hw
    omega
  have h3 := h2 c a hk
  unfold Mm.look at h3
  rw [hx2] at h3
  have hl : litNat (.lit (.int .u32 x)) = x.toNat := rfl
  rw [hl] at h3
  cases hh : Maps.has D (kl c a) with
  | true =>
    rw [hh, if_pos rfl] at h3
    rw [← h3]
    refine ⟨fun y hy => (by injection hy with hy; omega), ?_⟩
    rw [hrun, hh]
    show _ = Result.ok (Value.tuple #[.int .u32 ((x.toNat : Nat) : Int), .bool true]) w
    rw [show ((x.toNat : Nat) : Int) = x by omega]
  | false =>
    rw [hh, if_neg (by decide)] at h3
    rw [← h3]
    refine ⟨fun y hy => (by cases hy), ?_⟩
    have := Maps.atKey_of_not_has hh (.lit (.int .u32 0))
    rw [hx2] at this
    injection this with this
    injection this with _ this
    rw [hrun, hh, this]
    rfl
set_option maxRecDepth 100000 in
theorem MpAt.put {w : World} {b N : Nat} {F : Int → Nat → Option Nat} (h : MpAt w b N F) (hn : N < maxLen) {c : Int} {a x : Nat} (hk : Okk c a) (hx : x < 4294967296) :
    ∃ w', (Instr.mapUpdate 77 (.map (some b)) (pk c a) (.int .u32 (x : Nat))).run Try.prog w = .ok () w' ∧ MpAt w' b (N + 1) (upd F c a (some x)) ∧ w.grownBy w' (some b) := by
  obtain ⟨D, h1, h2⟩ := h
  have hw : (Lit.int .u32 (x : Nat)).wf = true := by simp [Lit.wf, IntKind.min, IntKind.max, IntKind.signed, IntKind.bits]; omega
  obtain ⟨w', hrun, h3, h4⟩ := h1.update klaw Try.underlying77 hn (kl_eq hk) (plainElem_int Try.underlying50 hw)
  refine ⟨w', hrun, ⟨_, h3, fun c' a' hk' => ?_⟩, h4⟩
  unfold upd
  by_cases e : c' = c ∧ a' = a
  · rw [if_pos e]
    obtain ⟨rfl, rfl⟩ := e
    unfold Mm.look
    rw [Maps.has_put_same h1.isMap (klaw.key (kl_eq hk)), if_pos rfl, Maps.atKey_put_same h1.isMap (klaw.key (kl_eq hk))]
    rfl
  · rw [if_neg e, ← h2 c' a' hk']
    unfold Mm.look
    rw [Maps.has_put_other (kl_ne hk hk' e), Maps.atKey_put_other (kl_ne hk hk' e)]
set_option maxRecDepth 100000 in
theorem MpAt.del {w : World} {b N : Nat} {F : Int → Nat → Option Nat} (h : MpAt w b N F) {c : Int} {a : Nat} (hk : Okk c a) (ty : TypeId) :
    ∃ w', (Builtin.delete_ #[77, 100] ty #[.map (some b), pk c a]).run Try.prog w = .ok (.tuple #[]) w' ∧ MpAt w' b N (upd F c a none) ∧ w.grownBy w' (some b) := by
  obtain ⟨D, h1, h2⟩ := h
  obtain ⟨w', hrun, h3, h4⟩ := h1.drop klaw Try.underlying77 (kl_eq hk) ty
  refine ⟨w', hrun, ⟨_, h3, fun c' a' hk' => ?_⟩, h4.grown⟩
  unfold upd
  by_cases e : c' = c ∧ a' = a
  · rw [if_pos e]
    obtain ⟨rfl, rfl⟩ := e
    unfold Mm.look
    rw [Maps.has_del_same, if_neg (by decide)]
  · rw [if_neg e, ← h2 c' a' hk']
    unfold Mm.look
    rw [Maps.has_del_other (kl_ne hk hk' e), Maps.atKey_del_other (kl_ne hk hk' e)]
/-! ### at the operation -/
section
variable {P : Program} {w : World} {ops : Array Oper} {rest : List Oper} {o : Oper} {a : Act} {Q : Exit → Act → World → Prop}
theorem wpList_look (hg : o.guard = none) (m x : Operand) (hop : o.op = Op.lookup 77 m x true) {b N : Nat} {F : Int → Nat → Option Nat} {c : Int} {ad : Nat} (hm : a.eval m = .map (some b)) (hx : a.eval x = pk c ad) (h : MpAt w b N F) (hk : Okk c ad)
    (hK : wpList Try.prog ops Q rest (a.put o.dst (.tuple #[.int .u32 ((F c ad).getD 0 : Nat), .bool (F c ad).isSome])) w) : wpList Try.prog ops Q (o :: rest) a w := by
  refine wpList_plain hg fun K' hK' => ?_
  unfold Oper.wp
  simp [execOp, hop, hm, hx, (h.look hk).2, Result.andThen]
  exact hK' _ _ hK
theorem wpList_put (hg : o.guard = none) (m x v : Operand) (hop : o.op = Op.mapUpdate 77 m x v) {b N : Nat} {F : Int → Nat → Option Nat} {c : Int} {ad y : Nat} (hm : a.eval m = .map (some b)) (hx : a.eval x = pk c ad) (hv : a.eval v = .int .u32 (y : Nat)) (h : MpAt w b N F) (hn : N < maxLen) (hk : Okk c ad) (hy : y < 4294967296)
    (hK : ∀ w', MpAt w' b (N + 1) (upd F c ad (some y)) → w.grownBy w' (some b) → wpList Try.prog ops Q rest (a.put o.dst undef) w') : wpList Try.prog ops Q (o :: rest) a w := by
  refine wpList_plain hg fun K' hK' => ?_
  obtain ⟨w', hrun, h1, h2⟩ := h.put hn hk hy
  unfold Oper.wp
  simp [execOp, hop, hm, hx, hv, hrun, Result.andThen]
  exact hK' _ _ (hK w' h1 h2)
theorem wpList_del (hg : o.guard = none) (m x : Operand) (hop : o.op = Op.call { callee := Callee.builtin Builtin.delete, args := #[m, x], argTypes := #[77, 100] }) {b N : Nat} {F : Int → Nat → Option Nat} {c : Int} {ad : Nat} (hm : a.eval m = .map (some b)) (hx : a.eval x = pk c ad) (h : MpAt w b N F) (hk : Okk c ad)
    (hK : ∀ w', MpAt w' b N (upd F c ad none) → w.grownBy w' (some b) → wpList Try.prog ops Q rest (a.put o.dst (.tuple #[])) w') : wpList Try.prog ops Q (o :: rest) a w := by
  refine wpList_plain hg fun K' hK' => ?_
  obtain ⟨w', hrun, h1, h2⟩ := h.del hk o.type
  unfold Oper.wp
  simp [execOp, hop, resolve, invoke, builtin, hm, hx, hrun, Result.andThen]
  exact hK' _ _ (hK w' h1 h2)
end
end Go.Proofs.Ytjcbhomfggjmhaa.Mm
