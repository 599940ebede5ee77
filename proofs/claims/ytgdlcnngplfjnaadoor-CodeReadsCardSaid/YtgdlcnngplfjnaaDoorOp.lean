import Derived.Test.YtgdlcnngplfjnaaDoorPg
import Derived.Deep.Slices
import Derived.Deep.SlicePairs
import Derived.Deep.Fields
import Derived.SizedLaws
import Derived.Lib.SmallJoins
namespace Go.Proofs.YtgdlcnngplfjnaaDoor
open Go.ChangeShapes Go.WideShapes Go.ChangeAt Go.RowKit Go.Deep Go.Joins
set_option linter.unusedVariables false
section
variable {H : Type} {enc : TypeId × Value → H} {w : World} {base : Nat} {spare : Nat → Bool} {held : Bool}
def Sm (t : TypeId) (d : DataW H) : Prop := ∀ n ∈ d.weights Tryd.prog t, n ≤ reachBytes
theorem mem_all {e : TypeId} : ∀ {l : List (DataW H)} {d : DataW H}, d ∈ l → ∀ n ∈ d.weights Tryd.prog e, n ∈ DataW.weightsAll Tryd.prog e l
  | x :: r, d, hd, n, hn => by
    simp only [DataW.weightsAll, List.mem_append]
    rcases List.mem_cons.1 hd with rfl | hd
    · exact .inl hn
    · exact .inr (mem_all hd n hn)
theorem sm_slice {t e : TypeId} {el sp : List (DataW H)} (ht : Tryd.prog.underlying t = some (.slice e)) (h : Sm t (.slice el sp)) : (el.length + sp.length) * Tryd.prog.bytesOf e ≤ reachBytes ∧ ∀ d ∈ el, Sm e d := by
  unfold Sm at h
  simp only [DataW.weights, ht, List.mem_cons, List.mem_append] at h
  exact ⟨h _ (.inl rfl), fun d hd n hn => h n (.inr (.inl (mem_all hd n hn)))⟩
theorem big_of {n m b : Nat} (h : (n + m) * b ≤ reachBytes) (hb : 0 < b) : n ≤ Big := by
  have h1 : n ≤ (n + m) * b := Nat.le_trans (Nat.le_add_right n m) (Nat.le_mul_of_pos_right _ hb)
  have h2 : reachBytes ≤ 140737488355328 := by decide
  unfold Big
  omega
theorem plain_of {x : Addr} {v : Value} (h : w.cell? (x.add 0) = some v) : ∃ b o, x = ⟨b, o, none⟩ ∧ b < w.heap.size := by
  obtain ⟨b, o, spot⟩ := x
  have hs : spot = none := by simpa [Addr.add] using World.cell?_spot h
  subst hs
  refine ⟨b, o, rfl, ?_⟩
  rw [Go.WideShapes.add_plain] at h
  exact World.block_lt_of_cell? w ⟨b, o + 0, none⟩ h
/-- A slice of one-cell elements that comes in. -/
theorem one_open {t e : TypeId} {bt fuel : Nat} {v : Value} {x : DataW H × List MemPlace} (ht : Tryd.prog.underlying t = some (.slice e)) (hc : Tryd.prog.cellsOf e = 1) (hb : Tryd.prog.bytesOf e = bt) (h0 : 0 < bt)
    (h : DataW.trod enc Tryd.prog w base spare held fuel t [v] = some x) (hS : Sm t x.1) :
    ∃ (a : Option Addr) (n c k : Nat) (V : Nat → Value) (D : Nat → DataW H) (Pl : Nat → List MemPlace), v = .slice a n c ∧ n ≤ Big ∧ Row1 w a n V ∧ ∀ i, i < n → DataW.trod enc Tryd.prog w base spare held k e [V i] = some (D i, Pl i) ∧ Sm e (D i) := by
  rcases open_slice1 ht hc h with ⟨hcs, _⟩ | ⟨a, len, cap, m, k, V, D, Pl, hcs, _, hl, hm, hmm, rfl, hx⟩
  · simp only [List.cons.injEq, and_true] at hcs
    subst hcs
    exact ⟨none, 0, 0, 0, fun _ => undef, fun _ => .nil, fun _ => [], rfl, by unfold Big; omega, .inl rfl, fun i hi => by omega⟩
  · simp only [List.cons.injEq, and_true] at hcs
    subst hcs
    obtain ⟨q1, q2⟩ := sm_slice ht hS
    rw [hb] at q1
    have hlm : len ≤ m := by rw [hmm]; split <;> omega
    refine ⟨some a, len, cap, k, V, D, Pl, rfl, ?_, ?_, fun i hi => ⟨(hx i (by omega)).2, q2 _ (List.mem_map.2 ⟨i, List.mem_range.2 hi, rfl⟩)⟩⟩
    · have := big_of q1 h0
      simpa using this
    · by_cases hz : len = 0
      · exact .inl hz
      · obtain ⟨b, o, rfl, hlt⟩ := plain_of (hx 0 (by omega)).1
        refine .inr ⟨b, o, rfl, hlt, fun i hi => ?_⟩
        have := (hx i (by omega)).1
        rwa [Go.WideShapes.add_plain] at this
theorem ints_open {t e : TypeId} {ik : IntKind} {bt fuel : Nat} {v : Value} {x : DataW H × List MemPlace} (ht : Tryd.prog.underlying t = some (.slice e)) (hc : Tryd.prog.cellsOf e = 1) (hb : Tryd.prog.bytesOf e = bt) (h0 : 0 < bt) (he : Tryd.prog.underlying e = some (.int ik))
    (h : DataW.trod enc Tryd.prog w base spare held fuel t [v] = some x) (hS : Sm t x.1) :
    ∃ (a : Option Addr) (n c : Nat) (F : Nat → Int), v = .slice a n c ∧ n ≤ Big ∧ Row1 w a n (fun i => .int ik (F i)) ∧ ∀ i, i < n → (Lit.int ik (F i)).wf = true := by
  obtain ⟨a, n, c, k, V, D, Pl, rfl, hn, hr, hx⟩ := one_open ht hc hb h0 h hS
  obtain ⟨F, hF⟩ := choose_lt (α := Int) (n := n) (p := fun i z => V i = .int ik z ∧ (Lit.int ik z).wf = true) (fun i hi => by
    obtain ⟨z, hz, _, hw⟩ := DataW.trod_int he (hx i hi).1
    simp only [List.cons.injEq, and_true] at hz
    exact ⟨z, hz, hw⟩)
  refine ⟨a, n, c, F, rfl, hn, ?_, fun i hi => (hF i hi).2⟩
  rcases hr with hr | ⟨b, o, ha, hb, hc⟩
  · exact .inl hr
  · exact .inr ⟨b, o, ha, hb, fun i hi => by rw [hc i hi, (hF i hi).1]⟩
theorem u8_nat {x : Int} (h : (Lit.int .u8 x).wf = true) : ((x.toNat : Nat) : Int) = x ∧ x.toNat < 256 := by
  simp [Lit.wf, IntKind.min, IntKind.max, IntKind.signed, IntKind.bits] at h
  omega
theorem i64_bds {a : Int} (h : (Lit.int .i64 a).wf = true) : -9223372036854775808 ≤ a ∧ a ≤ 9223372036854775807 := by
  simp [Lit.wf, IntKind.min, IntKind.max, IntKind.signed, IntKind.bits] at h; omega
/-- Bytes that come in. -/
theorem bytes_open {a : Option Addr} {n c : Nat} {d : DataW H} {p : List MemPlace} (h : DataW.Trod enc Tryd.prog w base spare held 22 (.slice a n c) d p) (hS : Sm 22 d) : ∃ D : Nat → Nat, n ≤ c ∧ (∀ i, i < n → D i < 256) ∧ Row1 w a n fun i => .int .u8 (D i : Nat) := by
  obtain ⟨m, hm⟩ := h
  have hcap : n ≤ c := by
    rcases open_slice Tryd.underlying22 hm with ⟨h0, _⟩ | ⟨a2, len, cap, m2, n2, D2, Pl, hcs, hb, hl, _⟩
    · injection h0 with h0
      injection h0 with e1 e2 e3
      omega
    · injection hcs with hcs
      injection hcs with e1 e2 e3
      omega
  obtain ⟨a', n', c', F, he, ln, rn, wn⟩ := ints_open (t := 22) (e := 5) (bt := 1) Tryd.underlying22 (by kernel_rfl) (by kernel_rfl) (by decide) Tryd.underlying5 hm hS
  injection he with h1 h2 h3
  subst h1 h2 h3
  refine ⟨fun i => (F i).toNat, hcap, fun i hi => (u8_nat (wn i hi)).2, ?_⟩
  rcases rn with h | ⟨b, o, e1, e2, e3⟩
  · exact .inl h
  · exact .inr ⟨b, o, e1, e2, fun i hi => by rw [e3 i hi]; show some (Value.int .u8 (F i)) = some (Value.int .u8 ((F i).toNat : Int)); rw [(u8_nat (wn i hi)).1]⟩
set_option maxRecDepth 100000 in
/-- A bytecode that comes in. -/
theorem op_open {r : Reach} {b : Nat} {v : Value} {d : DataW H} {p : List MemPlace} (hv : Value.okWide Tryd.prog w r b 25 v) (h : DataW.Trod enc Tryd.prog w base spare held 25 v d p) :
    ∃ c0 c1 c2 c3 : Int, v = .agg #[.int .i64 c0, .int .i64 c1, .int .i64 c2, .int .i64 c3] := by
  obtain ⟨⟨l⟩, rfl, hsz⟩ := okWide_struct Tryd.underlying25 hv
  have hl : l.length = 4 := hsz.trans (by kernel_rfl)
  have k3 : Tryd.prog.cellsOf 3 = 1 := by kernel_rfl
  obtain ⟨fuel, hf⟩ := h
  obtain ⟨xs, n, _, _, _, hlen, hg⟩ := DataW.trod_struct Tryd.underlying25 hf
  have hx : ∀ j, j < 4 → ∃ y, xs[j]? = some y := fun j hj => ⟨xs[j]'(by rw [hlen]; exact hj), List.getElem?_eq_getElem _⟩
  obtain ⟨c0, h0⟩ : ∃ c, l[0]? = some (.int .i64 c) := by
    obtain ⟨y, hy⟩ := hx 0 (by decide)
    have q : DataW.trod enc Tryd.prog w base spare held n 3 ((l.drop 0).take (Tryd.prog.cellsOf 3)) = xs[0]? := hg 0 _ rfl
    rw [k3, hy] at q
    obtain ⟨c, hc, _⟩ := DataW.trod_int Tryd.underlying3 q
    refine ⟨c, ?_⟩
    have : ((l.drop 0).take 1)[0]? = some (.int .i64 c) := by rw [hc]; rfl
    simpa [List.getElem?_take, List.getElem?_drop] using this
  obtain ⟨c1, h1⟩ : ∃ c, l[1]? = some (.int .i64 c) := by
    obtain ⟨y, hy⟩ := hx 1 (by decide)
    have q : DataW.trod enc Tryd.prog w base spare held n 3 ((l.drop 1).take (Tryd.prog.cellsOf 3)) = xs[1]? := hg 1 _ rfl
    rw [k3, hy] at q
    obtain ⟨c, hc, _⟩ := DataW.trod_int Tryd.underlying3 q
    refine ⟨c, ?_⟩
    have : ((l.drop 1).take 1)[0]? = some (.int .i64 c) := by rw [hc]; rfl
    simpa [List.getElem?_take, List.getElem?_drop] using this
  obtain ⟨c2, h2⟩ : ∃ c, l[2]? = some (.int .i64 c) := by
    obtain ⟨y, hy⟩ := hx 2 (by decide)
    have q : DataW.trod enc Tryd.prog w base spare held n 3 ((l.drop 2).take (Tryd.prog.cellsOf 3)) = xs[2]? := hg 2 _ rfl
    rw [k3, hy] at q
    obtain ⟨c, hc, _⟩ := DataW.trod_int Tryd.underlying3 q
    refine ⟨c, ?_⟩
    have : ((l.drop 2).take 1)[0]? = some (.int .i64 c) := by rw [hc]; rfl
    simpa [List.getElem?_take, List.getElem?_drop] using this
  obtain ⟨c3, h3⟩ : ∃ c, l[3]? = some (.int .i64 c) := by
    obtain ⟨y, hy⟩ := hx 3 (by decide)
    have q : DataW.trod enc Tryd.prog w base spare held n 3 ((l.drop 3).take (Tryd.prog.cellsOf 3)) = xs[3]? := hg 3 _ rfl
    rw [k3, hy] at q
    obtain ⟨c, hc, _⟩ := DataW.trod_int Tryd.underlying3 q
    refine ⟨c, ?_⟩
    have : ((l.drop 3).take 1)[0]? = some (.int .i64 c) := by rw [hc]; rfl
    simpa [List.getElem?_take, List.getElem?_drop] using this
  refine ⟨c0, c1, c2, c3, ?_⟩
  match l, hl, h0, h1, h2, h3 with
  | [x0, x1, x2, x3], _, h0, h1, h2, h3 =>
    simp only [List.getElem?_cons_zero, List.getElem?_cons_succ, Option.some.injEq] at h0 h1 h2 h3
    subst h0 h1 h2 h3
    rfl
end
end Go.Proofs.YtgdlcnngplfjnaaDoor
