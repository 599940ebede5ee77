import Derived.Test.YtpiafgmncfibmaaPg
import Derived.Deep.Slices
import Derived.Deep.SlicePairs
import Derived.Deep.Fields
import Derived.SizedLaws
import Derived.Lib.SmallJoins
namespace Go.Proofs.Ytpiafgmncfibmaa.Vf
open Go.ChangeShapes Go.WideShapes Go.ChangeAt Go.RowKit Go.Deep Go.Joins
set_option linter.unusedVariables false
section
variable {H : Type} {enc : TypeId × Value → H} {w : World} {base : Nat} {spare : Nat → Bool} {held : Bool}
def Sm (t : TypeId) (d : DataW H) : Prop := ∀ n ∈ d.weights Try.prog t, n ≤ reachBytes
theorem mem_all {e : TypeId} : ∀ {l : List (DataW H)} {d : DataW H}, d ∈ l → ∀ n ∈ d.weights Try.prog e, n ∈ DataW.weightsAll Try.prog e l
  | x :: r, d, hd, n, hn => by
    simp only [DataW.weightsAll, List.mem_append]
    rcases List.mem_cons.1 hd with rfl | hd
    · exact .inl hn
    · exact .inr (mem_all hd n hn)
theorem sm_slice {t e : TypeId} {el sp : List (DataW H)} (ht : Try.prog.underlying t = some (.slice e)) (h : Sm t (.slice el sp)) : (el.length + sp.length) * Try.prog.bytesOf e ≤ reachBytes ∧ ∀ d ∈ el, Sm e d := by
  unfold Sm at h
  simp only [DataW.weights, ht, List.mem_cons, List.mem_append] at h
  exact ⟨h _ (.inl rfl), fun d hd n hn => h n (.inr (.inl (mem_all hd n hn)))⟩
theorem sm_agg {t : TypeId} {fs : Array Field} {ps : List (DataW H)} (ht : Try.prog.underlying t = some (.struct fs)) (h : Sm t (.agg ps)) : ∀ (j : Nat) (f : Field) (y : DataW H), fs[j]? = some f → ps[j]? = some y → Sm f.type y := by
  intro j f y hf hy n hn
  refine h n ?_
  simp only [DataW.weights, ht]
  exact DataW.weights_mem_each (j := j) (t := f.type) (by rw [List.getElem?_map, Array.getElem?_toList, hf]; rfl) hy n hn
theorem big_of {n m b : Nat} (h : (n + m) * b ≤ reachBytes) (hb : 0 < b) : n ≤ Big := by
  have h1 : n ≤ (n + m) * b := Nat.le_trans (Nat.le_add_right n m) (Nat.le_mul_of_pos_right _ hb)
  have h2 : reachBytes ≤ 140737488355328 := by decide
  unfold Big
  omega
theorem plain_of {x : Addr} {v : Value} (h : w.cell? (x.add 0) = some v) : ∃ b o, x = ⟨b, o, none⟩ ∧ b < w.heap.size := by
  obtain ⟨b, o, spot⟩ := x
  have hs : spot = none := by simpa [Addr.add] using World.cell?_spot h
  subst hs
  refine ⟨b, o, rfl, ?_⟩
  rw [Go.WideShapes.add_plain] at h
  exact World.block_lt_of_cell? w ⟨b, o + 0, none⟩ h
/-- A slice of one-cell elements that comes in. -/
theorem one_open {t e : TypeId} {bt fuel : Nat} {v : Value} {x : DataW H × List MemPlace} (ht : Try.prog.underlying t = some (.slice e)) (hc : Try.prog.cellsOf e = 1) (hb : Try.prog.bytesOf e = bt) (h0 : 0 < bt)
    (h : DataW.trod enc Try.prog w base spare held fuel t [v] = some x) (hS : Sm t x.1) :
    ∃ (a : Option Addr) (n c k : Nat) (V : Nat → Value) (D : Nat → DataW H) (Pl : Nat → List MemPlace), v = .slice a n c ∧ n ≤ Big ∧ n ≤ c ∧ Row1 w a n V ∧ ∀ i, i < n → DataW.trod enc Try.prog w base spare held k e [V i] = some (D i, Pl i) ∧ Sm e (D i) := by
  rcases open_slice1 ht hc h with ⟨hcs, _⟩ | ⟨a, len, cap, m, k, V, D, Pl, hcs, _, hl, hm, hmm, rfl, hx⟩
  · simp only [List.cons.injEq, and_true] at hcs
    subst hcs
    exact ⟨none, 0, 0, 0, fun _ => undef, fun _ => .nil, fun _ => [], rfl, by unfold Big; omega, Nat.le_refl _, .inl rfl, fun i hi => by omega⟩
  · simp only [List.cons.injEq, and_true] at hcs
    subst hcs
    obtain ⟨q1, q2⟩ := sm_slice ht hS
    rw [hb] at q1
    have hlm : len ≤ m := by rw [hmm]; split <;> omega
    refine ⟨some a, len, cap, k, V, D, Pl, rfl, ?_, hl, ?_, fun i hi => ⟨(hx i (by omega)).2, q2 _ (List.mem_map.2 ⟨i, List.mem_range.2 hi, rfl⟩)⟩⟩
    · have := big_of q1 h0
      simpa using this
    · by_cases hz : len = 0
      · exact .inl hz
      · obtain ⟨b, o, rfl, hlt⟩ := plain_of (hx 0 (by omega)).1
        refine .inr ⟨b, o, rfl, hlt, fun i hi => ?_⟩
        have := (hx i (by omega)).1
        rwa [Go.WideShapes.add_plain] at this
theorem ints_open {t e : TypeId} {ik : IntKind} {bt fuel : Nat} {v : Value} {x : DataW H × List MemPlace} (ht : Try.prog.underlying t = some (.slice e)) (hc : Try.prog.cellsOf e = 1) (hb : Try.prog.bytesOf e = bt) (h0 : 0 < bt) (he : Try.prog.underlying e = some (.int ik))
    (h : DataW.trod enc Try.prog w base spare held fuel t [v] = some x) (hS : Sm t x.1) :
    ∃ (a : Option Addr) (n c : Nat) (F : Nat → Int), v = .slice a n c ∧ n ≤ Big ∧ n ≤ c ∧ Row1 w a n (fun i => .int ik (F i)) ∧ ∀ i, i < n → (Lit.int ik (F i)).wf = true := by
  obtain ⟨a, n, c, k, V, D, Pl, rfl, hn, hnc, hr, hx⟩ := one_open ht hc hb h0 h hS
  obtain ⟨F, hF⟩ := choose_lt (α := Int) (n := n) (p := fun i z => V i = .int ik z ∧ (Lit.int ik z).wf = true) (fun i hi => by
    obtain ⟨z, hz, _, hw⟩ := DataW.trod_int he (hx i hi).1
    simp only [List.cons.injEq, and_true] at hz
    exact ⟨z, hz, hw⟩)
  refine ⟨a, n, c, F, rfl, hn, hnc, ?_, fun i hi => (hF i hi).2⟩
  rcases hr with hr | ⟨b, o, ha, hb, hc⟩
  · exact .inl hr
  · exact .inr ⟨b, o, ha, hb, fun i hi => by rw [hc i hi, (hF i hi).1]⟩
theorem open_slice_fields {t e : TypeId} {fs : Array Field} {fuel : Nat} {cs : List Value} {x : DataW H × List MemPlace} (ht : Try.prog.underlying t = some (.slice e)) (he : Try.prog.underlying e = some (.struct fs))
    (hone : oneCellFields Try.prog fs = true) (hC : Try.prog.cellsOf e = fs.size) (h : DataW.trod enc Try.prog w base spare held fuel t cs = some x) :
    (cs = [.slice none 0 0] ∧ x = (.nil, [])) ∨
    ∃ (a : Addr) (len cap m : Nat) (D : Nat → DataW H) (Pl : Nat → List MemPlace), cs = [.slice (some a) len cap] ∧ base ≤ a.block ∧ len ≤ cap ∧ cap ≤ maxLen ∧ m = (if spare a.block then cap else len) ∧
      x = (.slice ((List.range len).map D) ((List.range (m - len)).map fun j => D (len + j)), MemPlace.row a (m * fs.size) ++ (List.range m).flatMap Pl) ∧
      ∀ i, i < m → ∃ (ys : List (DataW H × List MemPlace)) (n : Nat), D i = .agg (ys.map (·.1)) ∧ Pl i = ys.flatMap (·.2) ∧ ys.length = fs.size ∧
        ∀ (j : Nat) (f : Field), fs[j]? = some f → ∃ (v : Value) (y : DataW H × List MemPlace), w.cell? (a.add (i * fs.size + j)) = some v ∧ ys[j]? = some y ∧ DataW.trod enc Try.prog w base spare held n f.type [v] = some y := by
  rcases open_slice ht h with h0 | ⟨a, len, cap, m, n, D, Pl, hcs, hb, hl, hm, hmm, hx, hi⟩
  · exact .inl h0
  · refine .inr ⟨a, len, cap, m, D, Pl, hcs, hb, hl, hm, hmm, by rw [hC] at hx; exact hx, fun i him => ?_⟩
    obtain ⟨cs', hc, ht'⟩ := hi i him
    rw [hC] at hc
    obtain ⟨ys, n', hn', hy, hlen, hyl, hf⟩ := DataW.trod_struct he ht'
    obtain ⟨_, hcl, hat⟩ := World.cells?_some hc
    simp only [Prod.mk.injEq] at hy
    refine ⟨ys, n', hy.1, hy.2, hyl, fun j f hj => ?_⟩
    obtain ⟨ho, hk⟩ := hone_of hone j f hj
    have hjl : j < fs.size := (Array.getElem?_eq_some_iff.1 hj).1
    have hcell := hat j hjl
    have hv : cs'[j]? = some (cs'[j]'(by omega)) := List.getElem?_eq_getElem (by omega)
    have h1 := hf j f hj
    rw [ho, hk] at h1
    have hone' : (cs'.drop j).take 1 = [cs'[j]'(by omega)] := by
      rw [List.drop_eq_getElem_cons (by omega)]
      rfl
    rw [hone'] at h1
    have hys : ys[j]? = some (ys[j]'(by omega)) := List.getElem?_eq_getElem (by omega)
    refine ⟨_, _, ?_, hys, h1.trans hys⟩
    rw [← Go.Deep.add_add, hcell, hv]

/-- A slice of fields that comes in. -/
theorem fields_open {fuel : Nat} {v : Value} {x : DataW H × List MemPlace} (h : DataW.trod enc Try.prog w base spare held fuel 45 [v] = some x) (hS : Sm 45 x.1) :
    ∃ (a : Option Addr) (n c : Nat) (F : Nat → Int) (G : Nat → Bool), v = .slice a n c ∧ n ≤ Big ∧ Row2 w a n (fun i => .int .i64 (F i)) (fun i => .bool (G i)) := by
  rcases open_slice_pairs Try.underlying45 Try.underlying47 (by kernel_rfl) rfl rfl (by kernel_rfl) (by kernel_rfl) h with ⟨hcs, _⟩ | ⟨a, len, cap, m, k, V0, V1, D0, D1, P0, P1, hcs, _, hl, hm, hmm, rfl, hx⟩
  · simp only [List.cons.injEq, and_true] at hcs
    subst hcs
    exact ⟨none, 0, 0, fun _ => 0, fun _ => false, rfl, by unfold Big; omega, .inl rfl⟩
  · simp only [List.cons.injEq, and_true] at hcs
    subst hcs
    obtain ⟨q1, _⟩ := sm_slice Try.underlying45 hS
    rw [show Try.prog.bytesOf 47 = 16 by kernel_rfl] at q1
    have hlm : len ≤ m := by rw [hmm]; split <;> omega
    obtain ⟨F, hF⟩ := choose_lt (α := Int) (n := len) (p := fun i z => V0 i = .int .i64 z) (fun i hi => by
      obtain ⟨_, _, t, _⟩ := hx i (by omega)
      obtain ⟨z, hz, _⟩ := DataW.trod_int Try.underlying3 t
      simp only [List.cons.injEq, and_true] at hz
      exact ⟨z, hz⟩)
    obtain ⟨G, hG⟩ := choose_lt (α := Bool) (n := len) (p := fun i z => V1 i = .bool z) (fun i hi => by
      obtain ⟨_, _, _, t⟩ := hx i (by omega)
      obtain ⟨z, hz, _⟩ := DataW.trod_bool Try.underlying4 t
      simp only [List.cons.injEq, and_true] at hz
      exact ⟨z, hz⟩)
    refine ⟨some a, len, cap, F, G, rfl, ?_, ?_⟩
    · have := big_of q1 (by decide)
      simpa using this
    · by_cases hz : len = 0
      · exact .inl hz
      · obtain ⟨b, o, rfl, hlt⟩ := plain_of (by have := (hx 0 (by omega)).1; rwa [Nat.zero_mul] at this)
        refine .inr ⟨b, o, rfl, hlt, fun i hi => ?_⟩
        obtain ⟨u0, u1, _, _⟩ := hx i (by omega)
        rw [Go.WideShapes.add_plain] at u0 u1
        exact ⟨by rw [u0, hF i hi], by rw [← Nat.add_assoc] at u1; rw [u1, hG i hi]⟩
structure Mt where
  a0 : Option Addr
  n0 : Nat
  c0 : Nat
  F0 : Nat → Int
  r : Int
  a1 : Option Addr
  n1 : Nat
  c1 : Nat
  F1 : Nat → Int
  s : Int
  a2 : Option Addr
  n2 : Nat
  c2 : Nat
  F2 : Nat → Int
instance : Inhabited Mt := ⟨⟨none, 0, 0, fun _ => 0, 0, none, 0, 0, fun _ => 0, 0, none, 0, 0, fun _ => 0⟩⟩
structure MtAt (w : World) (b o i : Nat) (M : Mt) : Prop where
  x0 : w.cell? ⟨b, o + i * 5, none⟩ = some (.slice M.a0 M.n0 M.c0)
  x1 : w.cell? ⟨b, o + i * 5 + 1, none⟩ = some (.int .i64 M.r)
  x2 : w.cell? ⟨b, o + i * 5 + 2, none⟩ = some (.slice M.a1 M.n1 M.c1)
  x3 : w.cell? ⟨b, o + i * 5 + 3, none⟩ = some (.int .i64 M.s)
  x4 : w.cell? ⟨b, o + i * 5 + 4, none⟩ = some (.slice M.a2 M.n2 M.c2)
  l0 : M.n0 ≤ Big
  l1 : M.n1 ≤ Big
  l2 : M.n2 ≤ Big
  q0 : M.n0 ≤ M.c0
  q1 : M.n1 ≤ M.c1
  q2 : M.n2 ≤ M.c2
  r0 : Row1 w M.a0 M.n0 (fun i => .int .i64 (M.F0 i))
  r1 : Row1 w M.a1 M.n1 (fun i => .int .i64 (M.F1 i))
  r2 : Row1 w M.a2 M.n2 (fun i => .int .u8 (M.F2 i))
  w2 : ∀ i, i < M.n2 → (Lit.int .u8 (M.F2 i)).wf = true
/-- A slice of methods that comes in. -/
theorem methods_open {fuel : Nat} {v : Value} {x : DataW H × List MemPlace} (h : DataW.trod enc Try.prog w base spare held fuel 24 [v] = some x) (hS : Sm 24 x.1) :
    ∃ (a : Option Addr) (n c : Nat) (M : Nat → Mt), v = .slice a n c ∧ n ≤ Big ∧ n ≤ c ∧ (n = 0 ∨ ∃ b o, a = some ⟨b, o, none⟩ ∧ b < w.heap.size ∧ ∀ i, i < n → MtAt w b o i (M i)) := by
  rcases open_slice_fields Try.underlying24 Try.underlying50 (by kernel_rfl) (by kernel_rfl) h with ⟨hcs, _⟩ | ⟨a, len, cap, m, D, Pl, hcs, _, hl, hm, hmm, rfl, hx⟩
  · simp only [List.cons.injEq, and_true] at hcs
    subst hcs
    exact ⟨none, 0, 0, fun _ => default, rfl, by unfold Big; omega, Nat.le_refl _, .inl rfl⟩
  · simp only [List.cons.injEq, and_true] at hcs
    subst hcs
    obtain ⟨q1, q2⟩ := sm_slice Try.underlying24 hS
    rw [show Try.prog.bytesOf 50 = 88 by kernel_rfl] at q1
    have hlm : len ≤ m := by rw [hmm]; split <;> omega
    have hB : len ≤ Big := by have := big_of q1 (by decide); simpa using this
    by_cases hz : len = 0
    · exact ⟨some a, len, cap, fun _ => default, rfl, hB, hl, .inl hz⟩
    · obtain ⟨b, o, rfl, hlt⟩ : ∃ b o, a = ⟨b, o, none⟩ ∧ b < w.heap.size := by
        obtain ⟨ys, k, _, _, _, hf⟩ := hx 0 (by omega)
        obtain ⟨v, y, c, _, _⟩ := hf 0 _ rfl
        exact plain_of (by rwa [Nat.zero_mul] at c)
      obtain ⟨M, hM⟩ := choose_lt (α := Mt) (n := len) (p := fun i M => MtAt w b o i M) (fun i hi => by
        obtain ⟨ys, k, hD, _, hyl, hf⟩ := hx i (by omega)
        have hSD : Sm 50 (D i) := q2 _ (List.mem_map.2 ⟨i, List.mem_range.2 hi, rfl⟩)
        rw [hD] at hSD
        have hSf := sm_agg Try.underlying50 hSD
        obtain ⟨v0, y0, c0, g0, t0⟩ := hf 0 _ rfl
        obtain ⟨v1, y1, c1, g1, t1⟩ := hf 1 _ rfl
        obtain ⟨v2, y2, c2, g2, t2⟩ := hf 2 _ rfl
        obtain ⟨v3, y3, c3, g3, t3⟩ := hf 3 _ rfl
        obtain ⟨v4, y4, c4, g4, t4⟩ := hf 4 _ rfl
        have s0 := hSf 0 _ y0.1 rfl (by rw [List.getElem?_map, g0]; rfl)
        have s2 := hSf 2 _ y2.1 rfl (by rw [List.getElem?_map, g2]; rfl)
        have s4 := hSf 4 _ y4.1 rfl (by rw [List.getElem?_map, g4]; rfl)
        obtain ⟨a0, n0, e0, F0, rfl, l0, k0, r0, _⟩ := ints_open (t := 48) (e := 3) (bt := 8) Try.underlying48 (by kernel_rfl) (by kernel_rfl) (by decide) Try.underlying3 t0 s0
        obtain ⟨z1, hz1, _⟩ := DataW.trod_int Try.underlying3 t1
        obtain ⟨a2, n2, e2, F2, rfl, l2, k2, r2, _⟩ := ints_open (t := 48) (e := 3) (bt := 8) Try.underlying48 (by kernel_rfl) (by kernel_rfl) (by decide) Try.underlying3 t2 s2
        obtain ⟨z3, hz3, _⟩ := DataW.trod_int Try.underlying3 t3
        obtain ⟨a4, n4, e4, F4, rfl, l4, k4, r4, w4⟩ := ints_open (t := 29) (e := 5) (bt := 1) Try.underlying29 (by kernel_rfl) (by kernel_rfl) (by decide) Try.underlying5 t4 s4
        simp only [List.cons.injEq, and_true] at hz1 hz3
        subst hz1 hz3
        have e5 : (Try.prog.cellsOf 50) = 5 := by kernel_rfl
        rw [Go.WideShapes.add_plain] at c0 c1 c2 c3 c4
        exact ⟨⟨a0, n0, e0, F0, z1, a2, n2, e2, F2, z3, a4, n4, e4, F4⟩, c0, c1, c2, c3, c4, l0, l2, l4, k0, k2, k4, r0, r2, r4, w4⟩)
      exact ⟨some ⟨b, o, none⟩, len, cap, M, rfl, hB, hl, .inr ⟨b, o, rfl, hlt, hM⟩⟩
/-- Lengths are at most capacities. -/
structure Caps (P : Pg) (A : Ad) : Prop where
  m : P.nm ≤ A.mc
  a : ∀ i, i < P.nm → P.pn i ≤ A.ppc i
  l : ∀ i, i < P.nm → P.ln i ≤ A.llc i
  d : ∀ i, i < P.nm → P.cn i ≤ A.cdc i
structure Cs where
  a : Option Addr
  n : Nat
  c : Nat
  F : Nat → Int
  G : Nat → Bool
instance : Inhabited Cs := ⟨⟨none, 0, 0, fun _ => 0, fun _ => false⟩⟩
theorem u8_nat {x : Int} (h : (Lit.int .u8 x).wf = true) : ((x.toNat : Nat) : Int) = x ∧ x.toNat < 256 := by
  simp [Lit.wf, IntKind.min, IntKind.max, IntKind.signed, IntKind.bits] at h
  omega
theorem i64_bds {a : Int} (h : (Lit.int .i64 a).wf = true) : -9223372036854775808 ≤ a ∧ a ≤ 9223372036854775807 := by
  simp [Lit.wf, IntKind.min, IntKind.max, IntKind.signed, IntKind.bits] at h; omega
set_option maxRecDepth 100000 in
/-- A program that comes in. -/
theorem prog_open {b0 : Nat} {rc : Reach} {v : Value} {d : DataW H} {p : List MemPlace} (hv : Value.okWide Try.prog w rc b0 26 v) (h : DataW.Trod enc Try.prog w base spare held 26 v d p) (hS : Sm 26 d) :
    ∃ (P : Pg) (A : Ad), v = .agg (P.cells A) ∧ PgAt w P A ∧ Fits P A ∧ Caps P A := by
  obtain ⟨v0, v1, v2, y0, y1, y2, k, rfl, rfl, _, h0, h1, h2⟩ := open_agg3 Try.underlying26 (by kernel_rfl) (by kernel_rfl) hv h
  have hSf := sm_agg Try.underlying26 hS
  have s0 := hSf 0 _ y0.1 rfl rfl
  have s1 := hSf 1 _ y1.1 rfl rfl
  have s2 := hSf 2 _ y2.1 rfl rfl
  obtain ⟨pa, np, pc, po, rfl, lp, kp, rp, wp⟩ := ints_open (t := 22) (e := 2) (bt := 8) Try.underlying22 (by kernel_rfl) (by kernel_rfl) (by decide) Try.underlying2 h0 s0
  obtain ⟨ca, nc, cc, kk, V, D, Pl, rfl, lc, kc, rc', hx⟩ := one_open (t := 23) (e := 45) (bt := 24) Try.underlying23 (by kernel_rfl) (by kernel_rfl) (by decide) h1 s1
  obtain ⟨C, hC⟩ := choose_lt (α := Cs) (n := nc) (p := fun i C => V i = .slice C.a C.n C.c ∧ C.n ≤ Big ∧ Row2 w C.a C.n (fun i => .int .i64 (C.F i)) (fun i => .bool (C.G i))) (fun i hi => by
    obtain ⟨a, n, c, F, G, e1, e2, e3⟩ := fields_open (hx i hi).1 (hx i hi).2
    exact ⟨⟨a, n, c, F, G⟩, e1, e2, e3⟩)
  obtain ⟨ma, nm, mc, M, rfl, lm, km, rm⟩ := methods_open h2 s2
  refine ⟨⟨np, po, nc, fun i => (C i).n, fun i j => (C i).F j, fun i j => (C i).G j, nm, fun i => (M i).n0, fun i j => (M i).F0 j, fun i => (M i).r, fun i => (M i).n1, fun i j => (M i).F1 j, fun i => (M i).s, fun i => (M i).n2, fun i j => ((M i).F2 j).toNat⟩,
    ⟨pa, pc, ca, cc, ma, mc, fun i => (C i).a, fun i => (C i).c, fun i => (M i).a0, fun i => (M i).c0, fun i => (M i).a1, fun i => (M i).c1, fun i => (M i).a2, fun i => (M i).c2⟩, rfl, ?_, ?_, ?_⟩
  · have hm : ∀ i, i < nm → ∃ b o, ma = some ⟨b, o, none⟩ ∧ MtAt w b o i (M i) := fun i hi => by
      rcases rm with e | ⟨b, o, e, _, q⟩
      · omega
      · exact ⟨b, o, e, q i hi⟩
    refine ⟨rp, ?_, fun i hi => (hC i hi).2.2, ?_, fun i hi => ?_, fun i hi => ?_, fun i hi => ?_⟩
    · rcases rc' with e | ⟨b, o, e, q, r⟩
      · exact .inl e
      · exact .inr ⟨b, o, e, q, fun i hi => by rw [r i hi, (hC i hi).1]⟩
    · rcases rm with e | ⟨b, o, e, q, r⟩
      · exact .inl e
      · exact .inr ⟨b, o, e, q, fun i hi => ⟨(r i hi).x0, (r i hi).x1, (r i hi).x2, (r i hi).x3, (r i hi).x4⟩⟩
    · obtain ⟨b, o, _, q⟩ := hm i hi
      exact q.r0
    · obtain ⟨b, o, _, q⟩ := hm i hi
      exact q.r1
    · obtain ⟨b, o, _, q⟩ := hm i hi
      rcases q.r2 with e | ⟨b2, o2, e, q2, r⟩
      · exact .inl e
      · exact .inr ⟨b2, o2, e, q2, fun j hj => by rw [r j hj]; show some (Value.int .u8 _) = some (Value.int .u8 _); rw [(u8_nat (q.w2 j hj)).1]⟩
  · have hm : ∀ i, i < nm → ∃ b o, MtAt w b o i (M i) := fun i hi => by
      rcases rm with e | ⟨b, o, e, _, q⟩
      · omega
      · exact ⟨b, o, q i hi⟩
    exact ⟨lp, lc, lm, fun i hi => i64_bds (wp i hi), fun i hi => (hC i hi).2.1, fun i hi => (hm i hi).elim fun b q => q.elim fun o q => q.l0, fun i hi => (hm i hi).elim fun b q => q.elim fun o q => q.l1, fun i hi => (hm i hi).elim fun b q => q.elim fun o q => q.l2,
      fun i j hi hj => (hm i hi).elim fun b q => q.elim fun o q => (u8_nat (q.w2 j hj)).2⟩
  · have hm : ∀ i, i < nm → ∃ b o, MtAt w b o i (M i) := fun i hi => by
      rcases rm with e | ⟨b, o, e, _, q⟩
      · omega
      · exact ⟨b, o, q i hi⟩
    exact ⟨km, fun i hi => (hm i hi).elim fun b q => q.elim fun o q => q.q0, fun i hi => (hm i hi).elim fun b q => q.elim fun o q => q.q1, fun i hi => (hm i hi).elim fun b q => q.elim fun o q => q.q2⟩
end
end Go.Proofs.Ytpiafgmncfibmaa.Vf
