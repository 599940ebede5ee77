import Derived.Test.YtjcbhomfggjmhaaMl
import Derived.Deep.Slices
import Derived.Deep.Fields
import Derived.Deep.SlicePairs
import Derived.SizedLaws
namespace Go.Proofs.Ytjcbhomfggjmhaa.Mm
open Go.ChangeShapes Go.WideShapes Go.ChangeAt Go.RowKit Go.Deep
set_option linter.unusedVariables false
/-- An act that comes in. -/
structure Am where
  op : Int
  ad : Nat
  v : Nat
  sp : Option Addr
  m : Nat
  cs : Nat
  l : Nat → Nat
  N : Int
/-- An act's cells, from a place on. -/
structure AmOk (w : World) (b o : Nat) (X : Am) : Prop where
  c0 : w.cell? ⟨b, o, none⟩ = some (.int .i64 X.op)
  c1 : w.cell? ⟨b, o + 1, none⟩ = some (.int .u64 (X.ad : Nat))
  c2 : w.cell? ⟨b, o + 2, none⟩ = some (.int .u64 (X.v : Nat))
  c3 : w.cell? ⟨b, o + 3, none⟩ = some (.slice X.sp X.m X.cs)
  c4 : w.cell? ⟨b, o + 4, none⟩ = some (.int .i64 X.N)
  had : X.ad < 18446744073709551616
  hv : X.v < 18446744073709551616
  hN : X.N ≤ 9223372036854775807
  hm : X.m < 9223372036854775808
  hcs : X.m ≤ X.cs
  hl : ∀ j, X.l j < 256
  src : 0 < X.m → ∃ sb so, X.sp = some ⟨sb, so, none⟩ ∧ sb < w.heap.size ∧ ∀ j, j < X.m → w.cell? ⟨sb, so + j, none⟩ = some (.int .u8 (X.l j : Nat))
def AmS (w : World) (a : Option Addr) (n : Nat) (X : Nat → Am) : Prop := n = 0 ∨ ∃ b o, a = some ⟨b, o, none⟩ ∧ b < w.heap.size ∧ ∀ i, i < n → AmOk w b (o + i * 5) (X i)
theorem AmOk.past {w w' : World} {b o : Nat} {X : Am} (h : AmOk w b o X) (hb : b < w.heap.size) (hbl : Below w.heap.size w w') : AmOk w' b o X := by
  have k : ∀ p, p < w.heap.size → ∀ q, w'.cell? ⟨p, q, none⟩ = w.cell? ⟨p, q, none⟩ := fun p hp q => hbl.cell (p := ⟨p, q, none⟩) hp
  refine ⟨(k b hb _).trans h.c0, (k b hb _).trans h.c1, (k b hb _).trans h.c2, (k b hb _).trans h.c3, (k b hb _).trans h.c4, h.had, h.hv, h.hN, h.hm, h.hcs, h.hl, fun h0 => ?_⟩
  obtain ⟨sb, so, e, hs, hc⟩ := h.src h0
  exact ⟨sb, so, e, Nat.lt_of_lt_of_le hs hbl.size, fun j hj => (k sb hs _).trans (hc j hj)⟩
theorem AmS.past {w w' : World} {a : Option Addr} {n : Nat} {X : Nat → Am} (h : AmS w a n X) (hbl : Below w.heap.size w w') : AmS w' a n X := by
  rcases h with h | ⟨b, o, e, hb, hc⟩
  · exact .inl h
  · exact .inr ⟨b, o, e, Nat.lt_of_lt_of_le hb hbl.size, fun i hi => (hc i hi).past hb hbl⟩
section
variable {H : Type} {enc : TypeId × Value → H} {w : World} {base : Nat} {spare : Nat → Bool} {held : Bool}
theorem open_slice_fields {t e : TypeId} {fs : Array Field} {fuel : Nat} {cs : List Value} {x : DataW H × List MemPlace} (ht : Try.prog.underlying t = some (.slice e)) (he : Try.prog.underlying e = some (.struct fs))
    (hone : oneCellFields Try.prog fs = true) (hC : Try.prog.cellsOf e = fs.size) (h : DataW.trod enc Try.prog w base spare held fuel t cs = some x) :
    (cs = [.slice none 0 0] ∧ x = (.nil, [])) ∨
    ∃ (a : Addr) (len cap m : Nat) (D : Nat → DataW H) (Pl : Nat → List MemPlace), cs = [.slice (some a) len cap] ∧ base ≤ a.block ∧ len ≤ cap ∧ cap ≤ maxLen ∧ m = (if spare a.block then cap else len) ∧
      x = (.slice ((List.range len).map D) ((List.range (m - len)).map fun j => D (len + j)), MemPlace.row a (m * fs.size) ++ (List.range m).flatMap Pl) ∧
      ∀ i, i < m → ∃ (ys : List (DataW H × List MemPlace)) (n : Nat), D i = .agg (ys.map (·.1)) ∧ Pl i = ys.flatMap (·.2) ∧ ys.length = fs.size ∧
        ∀ (j : Nat) (f : Field), fs[j]? = some f → ∃ (v : Value) (y : DataW H × List MemPlace), w.cell? (a.add (i * fs.size + j)) = some v ∧ ys[j]? = some y ∧ DataW.trod enc Try.prog w base spare held n f.type [v] = some y := by
  rcases open_slice ht h with h0 | ⟨a, len, cap, m, n, D, Pl, hcs, hb, hl, hm, hmm, hx, hi⟩
  · exact .inl h0
  · refine .inr ⟨a, len, cap, m, D, Pl, hcs, hb, hl, hm, hmm, by rw [hC] at hx; exact hx, fun i him => ?_⟩
    obtain ⟨cs', hc, ht'⟩ := hi i him
    rw [hC] at hc
    obtain ⟨ys, n', hn', hy, hlen, hyl, hf⟩ := DataW.trod_struct he ht'
    obtain ⟨_, hcl, hat⟩ := World.cells?_some hc
    simp only [Prod.mk.injEq] at hy
    refine ⟨ys, n', hy.1, hy.2, hyl, fun j f hj => ?_⟩
    obtain ⟨ho, hk⟩ := hone_of hone j f hj
    have hjl : j < fs.size := (Array.getElem?_eq_some_iff.1 hj).1
    have hcell := hat j hjl
    have hv : cs'[j]? = some (cs'[j]'(by omega)) := List.getElem?_eq_getElem (by omega)
    have h1 := hf j f hj
    rw [ho, hk] at h1
    have hone' : (cs'.drop j).take 1 = [cs'[j]'(by omega)] := by
      rw [List.drop_eq_getElem_cons (by omega)]
      rfl
    rw [hone'] at h1
    have hys : ys[j]? = some (ys[j]'(by omega)) := List.getElem?_eq_getElem (by omega)
    refine ⟨_, _, ?_, hys, h1.trans hys⟩
    rw [← Go.Deep.add_add, hcell, hv]
theorem nat_of_wf64 {z : Int} (h : (Lit.int .u64 z).wf = true) : ∃ n : Nat, z = n ∧ n < 18446744073709551616 := by
  simp [Lit.wf, IntKind.min, IntKind.max, IntKind.signed, IntKind.bits] at h
  exact ⟨z.toNat, by omega, by omega⟩
theorem nat_of_wf8 {z : Int} (h : (Lit.int .u8 z).wf = true) : ∃ n : Nat, z = n ∧ n < 256 := by
  simp [Lit.wf, IntKind.min, IntKind.max, IntKind.signed, IntKind.bits] at h
  exact ⟨z.toNat, by omega, by omega⟩
theorem le_of_wfi {z : Int} (h : (Lit.int .i64 z).wf = true) : z ≤ 9223372036854775807 := by
  simp [Lit.wf, IntKind.min, IntKind.max, IntKind.signed, IntKind.bits] at h
  omega
theorem choose_nat {α : Type} (z : α) {n : Nat} {p : Nat → α → Prop} (h : ∀ i, i < n → ∃ x, p i x) : ∃ f : Nat → α, (∀ i, i < n → p i (f i)) ∧ ∀ i, ¬ i < n → f i = z :=
  ⟨fun i => if hi : i < n then Classical.choose (h i hi) else z, fun i hi => by simp only [dif_pos hi]; exact Classical.choose_spec (h i hi), fun i hi => by simp only [dif_neg hi]⟩
/-- A slice of bytes that comes in. -/
theorem bytes_open {fuel : Nat} {v : Value} {x : DataW H × List MemPlace} (h : DataW.trod enc Try.prog w base spare held fuel 22 [v] = some x) :
    ∃ (a : Option Addr) (n c : Nat) (F : Nat → Nat), v = .slice a n c ∧ n < 9223372036854775808 ∧ n ≤ c ∧ (∀ j, F j < 256) ∧ (0 < n → ∃ sb so, a = some ⟨sb, so, none⟩ ∧ sb < w.heap.size ∧ ∀ j, j < n → w.cell? ⟨sb, so + j, none⟩ = some (.int .u8 (F j : Nat))) := by
  rcases open_slice1 Try.underlying22 (by kernel_rfl) h with ⟨hcs, _⟩ | ⟨a, len, cap, m, k, V, D, Pl, hcs, _, hl, hm, hmm, rfl, hx⟩
  · simp only [List.cons.injEq, and_true] at hcs
    subst hcs
    exact ⟨none, 0, 0, fun _ => 0, rfl, by omega, Nat.le_refl _, fun _ => by show 0 < 256; omega, fun h => by omega⟩
  · simp only [List.cons.injEq, and_true] at hcs
    subst hcs
    have hlm : len ≤ m := by rw [hmm]; split <;> omega
    obtain ⟨F, hF, hz⟩ := choose_nat (0 : Nat) (n := len) (p := fun i z => V i = .int .u8 (z : Nat) ∧ z < 256) (fun i hi => by
      obtain ⟨z, hz, _, hw⟩ := DataW.trod_int Try.underlying5 (hx i (by omega)).2
      simp only [List.cons.injEq, and_true] at hz
      obtain ⟨n, rfl, hn⟩ := nat_of_wf8 hw
      exact ⟨n, hz, hn⟩)
    refine ⟨some a, len, cap, F, rfl, by unfold maxLen at hm; omega, hl, fun j => ?_, fun h0 => ?_⟩
    · by_cases hj : j < len
      · exact (hF j hj).2
      · rw [hz j hj]; omega
    · obtain ⟨b, o, spot⟩ := a
      have h1 := (hx 0 (by omega)).1
      have hspot : spot = none := by simpa [Addr.add] using World.cell?_spot h1
      subst hspot
      rw [Go.WideShapes.add_plain] at h1
      refine ⟨b, o, rfl, World.block_lt_of_cell? w ⟨b, o + 0, none⟩ h1, fun j hj => ?_⟩
      have h2 := (hx j (by omega)).1
      rw [Go.WideShapes.add_plain] at h2
      rw [h2, (hF j hj).1]
theorem regCell_0 (A S : Nat → Nat) (W X : Nat → Bool) (i : Nat) : regCell A S W X (i * 4 + 0) = .int .u64 (A i : Nat) := by unfold regCell; rw [if_pos (by omega), show (i * 4 + 0) / 4 = i by omega]
theorem regCell_1 (A S : Nat → Nat) (W X : Nat → Bool) (i : Nat) : regCell A S W X (i * 4 + 1) = .int .u64 (S i : Nat) := by unfold regCell; rw [if_neg (by omega), if_pos (by omega), show (i * 4 + 1) / 4 = i by omega]
theorem regCell_2 (A S : Nat → Nat) (W X : Nat → Bool) (i : Nat) : regCell A S W X (i * 4 + 2) = .bool (W i) := by unfold regCell; rw [if_neg (by omega), if_neg (by omega), if_pos (by omega), show (i * 4 + 2) / 4 = i by omega]
theorem regCell_3 (A S : Nat → Nat) (W X : Nat → Bool) (i : Nat) : regCell A S W X (i * 4 + 3) = .bool (X i) := by unfold regCell; rw [if_neg (by omega), if_neg (by omega), if_neg (by omega), show (i * 4 + 3) / 4 = i by omega]
/-- A slice of regions that comes in. -/
theorem regions_open {a : Option Addr} {n cap : Nat} {d : DataW H} {p : List MemPlace} (h : DataW.Trod enc Try.prog w base spare held 29 (.slice a n cap) d p) :
    n ≤ 9223372036854775807 ∧ ∃ A S W X, RgSrc w (.slice a n cap) n A S W X ∧ (∀ i, A i < 18446744073709551616) ∧ ∀ i, S i < 18446744073709551616 := by
  obtain ⟨fuel, hf⟩ := h
  rcases open_slice_fields Try.underlying29 Try.underlying58 (by kernel_rfl) (by kernel_rfl) hf with ⟨hcs, _⟩ | ⟨x, l, c, m, D, Pl, hcs, _, hl, hm, hmm, _, hi⟩
  · simp [Value.cells] at hcs
    obtain ⟨rfl, rfl, rfl⟩ := hcs
    exact ⟨by omega, fun _ => 0, fun _ => 0, fun _ => false, fun _ => false, ⟨none, 0, rfl, Nat.le_refl _, fun h => by omega⟩, fun _ => by show 0 < 18446744073709551616; omega, fun _ => by show 0 < 18446744073709551616; omega⟩
  · simp [Value.cells] at hcs
    obtain ⟨rfl, rfl, rfl⟩ := hcs
    refine ⟨by unfold maxLen at hm; omega, ?_⟩
    have hlm : n ≤ m := by rw [hmm]; split <;> omega
    obtain ⟨F, hF, hz⟩ := choose_nat ((0, 0, false, false) : Nat × Nat × Bool × Bool) (n := n) (p := fun i z => w.cell? (x.add (i * 4 + 0)) = some (.int .u64 (z.1 : Nat)) ∧ w.cell? (x.add (i * 4 + 1)) = some (.int .u64 (z.2.1 : Nat)) ∧ w.cell? (x.add (i * 4 + 2)) = some (.bool z.2.2.1) ∧ w.cell? (x.add (i * 4 + 3)) = some (.bool z.2.2.2) ∧ z.1 < 18446744073709551616 ∧ z.2.1 < 18446744073709551616) (fun i hin => by
      obtain ⟨ys, k, _, _, _, hfs⟩ := hi i (by omega)
      obtain ⟨v0, y0, c0, _, t0⟩ := hfs 0 _ rfl
      obtain ⟨v1, y1, c1, _, t1⟩ := hfs 1 _ rfl
      obtain ⟨v2, y2, c2, _, t2⟩ := hfs 2 _ rfl
      obtain ⟨v3, y3, c3, _, t3⟩ := hfs 3 _ rfl
      obtain ⟨a, ha, _, wa⟩ := DataW.trod_int Try.underlying35 t0
      obtain ⟨s, hs, _, ws⟩ := DataW.trod_int Try.underlying35 t1
      obtain ⟨p, hp, _⟩ := DataW.trod_bool Try.underlying4 t2
      obtain ⟨q, hq, _⟩ := DataW.trod_bool Try.underlying4 t3
      injection ha with ha
      injection hs with hs
      injection hp with hp
      injection hq with hq
      subst ha hs hp hq
      obtain ⟨a, rfl, ha⟩ := nat_of_wf64 wa
      obtain ⟨s, rfl, hs⟩ := nat_of_wf64 ws
      exact ⟨(a, s, p, q), c0, c1, c2, c3, ha, hs⟩)
    refine ⟨fun i => (F i).1, fun i => (F i).2.1, fun i => (F i).2.2.1, fun i => (F i).2.2.2, ⟨_, _, rfl, hl, fun h0 => ?_⟩, fun i => ?_, fun i => ?_⟩
    · obtain ⟨b, off, spot⟩ := x
      have z0 := (hF 0 h0).1
      have hspot : spot = none := by simpa [Addr.add] using World.cell?_spot z0
      subst hspot
      have hb : b < w.heap.size := World.block_lt_of_cell? w ⟨b, off, none⟩ (by simpa [Addr.add] using z0)
      refine ⟨⟨b, off, none⟩, rfl, hb, fun q hq => ?_⟩
      obtain ⟨i, r, hi4, rfl⟩ : ∃ i r, r < 4 ∧ q = i * 4 + r := ⟨q / 4, q % 4, by omega, by omega⟩
      have hin : i < n := by omega
      obtain ⟨h0, h1, h2, h3, _, _⟩ := hF i hin
      have hr : r = 0 ∨ r = 1 ∨ r = 2 ∨ r = 3 := by omega
      rcases hr with rfl | rfl | rfl | rfl
      · rw [h0, regCell_0]
      · rw [h1, regCell_1]
      · rw [h2, regCell_2]
      · rw [h3, regCell_3]
    · by_cases hin : i < n
      · exact (hF i hin).2.2.2.2.1
      · show (F i).1 < _; rw [hz i hin]; show 0 < 18446744073709551616; omega
    · by_cases hin : i < n
      · exact (hF i hin).2.2.2.2.2
      · show (F i).2.1 < _; rw [hz i hin]; show 0 < 18446744073709551616; omega
end
/-- A slice of regions that came in, by its cells. -/
theorem RgSrc.plain {w : World} {u : Value} {n : Nat} {A S : Nat → Nat} {W X : Nat → Bool} (h : RgSrc w u n A S W X) : ∃ sp cap, u = .slice sp n cap ∧ n ≤ cap ∧ (0 < n → ∃ rb ro, sp = some ⟨rb, ro, none⟩ ∧ rb < w.heap.size ∧ ∀ i, i < n →
    w.cell? ⟨rb, ro + i * 4, none⟩ = some (.int .u64 (A i : Nat)) ∧ w.cell? ⟨rb, ro + i * 4 + 1, none⟩ = some (.int .u64 (S i : Nat)) ∧ w.cell? ⟨rb, ro + i * 4 + 2, none⟩ = some (.bool (W i)) ∧ w.cell? ⟨rb, ro + i * 4 + 3, none⟩ = some (.bool (X i))) := by
  obtain ⟨sp, cap, e, hc, hp⟩ := h
  refine ⟨sp, cap, e, hc, fun h0 => ?_⟩
  obtain ⟨ad, e2, hlt, hh⟩ := hp h0
  obtain ⟨rb, ro, spot⟩ := ad
  have z := hh 0 (by omega)
  have hs : spot = none := by simpa [Addr.add] using World.cell?_spot z
  subst hs
  refine ⟨rb, ro, e2, hlt, fun i hi => ⟨?_, ?_, ?_, ?_⟩⟩
  · have := hh (i * 4) (by omega)
    rw [Go.WideShapes.add_plain] at this
    rw [this]; unfold regCell; rw [if_pos (by omega), show i * 4 / 4 = i by omega]
  · have := hh (i * 4 + 1) (by omega)
    rw [Go.WideShapes.add_plain, ← Nat.add_assoc] at this
    rw [this]; unfold regCell; rw [if_neg (by omega), if_pos (by omega), show (i * 4 + 1) / 4 = i by omega]
  · have := hh (i * 4 + 2) (by omega)
    rw [Go.WideShapes.add_plain, ← Nat.add_assoc] at this
    rw [this]; unfold regCell; rw [if_neg (by omega), if_neg (by omega), if_pos (by omega), show (i * 4 + 2) / 4 = i by omega]
  · have := hh (i * 4 + 3) (by omega)
    rw [Go.WideShapes.add_plain, ← Nat.add_assoc] at this
    rw [this]; unfold regCell; rw [if_neg (by omega), if_neg (by omega), if_neg (by omega), show (i * 4 + 3) / 4 = i by omega]
theorem wrap_nat (x : Int) : ∃ q : Nat, IntKind.u64.wrap x = (q : Int) ∧ q < 18446744073709551616 := by
  rw [IntKind.wrap_u64]
  exact ⟨(x % 18446744073709551616).toNat, by omega, by omega⟩
theorem wrap_i64 (x : Int) : ∃ q : Int, IntKind.i64.wrap x = q ∧ -9223372036854775808 ≤ q ∧ q ≤ 9223372036854775807 := by
  rw [IntKind.wrap_i64]
  exact ⟨_, rfl, by omega, by omega⟩
end Go.Proofs.Ytjcbhomfggjmhaa.Mm
