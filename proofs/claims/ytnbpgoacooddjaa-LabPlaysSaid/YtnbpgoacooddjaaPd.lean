import Derived.Test.YtnbpgoacooddjaaLj
import Derived.Test.YtnbpgoacooddjaaEVr
namespace Go.Proofs.Ytnbpgoacooddjaa.Lab
open Go.ChangeShapes Go.WideShapes Go.ChangeAt Go.RowKit Go.Maps Go.Deep
open Go.Proofs.Ytnbpgoacooddjaa.En
set_option linter.unusedVariables false
/-- Rows that fit. -/
def rowS (S : Lb) (m : Nat) (G : Nat → In) : Lb := if S.n + m ≤ 65536 then S.app G m else (S.fail 2).app G (65536 - S.n)
/-- The same as far as it is laid. -/
def Eqv (S T : Lb) : Prop := (∀ j, j < S.n → S.F j = T.F j) ∧ { S with F := T.F } = T
theorem Eqv.refl (S : Lb) : Eqv S S := ⟨fun _ _ => rfl, rfl⟩
theorem Eqv.trans' {S T U : Lb} (h : Eqv S T) (h' : Eqv T U) : Eqv S U := by
  have hn : S.n = T.n := by rw [← h.2]
  refine ⟨fun j hj => (h.1 j hj).trans (h'.1 j (by omega)), ?_⟩
  rw [← h'.2, ← h.2]
theorem LbC.congr {w : World} {FP : Nat → Prop} {p mb : Nat} {S T : Lb} {v1 v3 : Value} {bx bY bz : Nat → Nat} (h : LbC w FP p S mb v1 v3 bx bY bz) (he : Eqv S T) : LbC w FP p T mb v1 v3 bx bY bz := by
  obtain ⟨h1, h2⟩ := he
  rw [← h2]
  have hi : insL S.F S.n = insL T.F S.n := insL_congr _ _ _ h1
  exact ⟨h.row, by have := h.ins; rw [hi] at this; exact this, h.map, h.jmp, h.box, h.fp, h.fm, h.f1, h.f3, h.fl, h.nl⟩
theorem fail_n (S : Lb) (e : Int) : (S.fail e).n = S.n ∧ (S.fail e).F = S.F ∧ (S.fail e).at0 = S.at0 ∧ (S.fail e).D = S.D ∧ (S.fail e).cnt = S.cnt ∧ (S.fail e).jn = S.jn ∧ (S.fail e).nm = S.nm ∧ (S.fail e).pl = S.pl := by
  unfold Lb.fail
  split <;> exact ⟨rfl, rfl, rfl, rfl, rfl, rfl, rfl, rfl⟩
theorem fail_fail (S : Lb) : (S.fail 2).fail 2 = S.fail 2 := by
  unfold Lb.fail
  by_cases h : S.err = 0
  · rw [if_pos h]
    exact if_neg (show ¬ (2 : Int) = 0 by decide)
  · rw [if_neg h, if_neg h]
theorem rowS_n (S : Lb) (m : Nat) (G : Nat → In) (hn : S.n ≤ 65536) : (rowS S m G).n = if S.n + m ≤ 65536 then S.n + m else 65536 := by
  unfold rowS
  split
  · rfl
  · show (S.fail 2).n + (65536 - S.n) = 65536
    rw [(fail_n S 2).1]
    omega
theorem app_fail (S : Lb) (G : Nat → In) (k : Nat) : (S.app G k).fail 2 = (S.fail 2).app G k := by
  unfold Lb.fail Lb.app
  by_cases h : S.err = 0
  · simp [h]
  · simp [h]
theorem app_app (S : Lb) (G H : Nat → In) (a b : Nat) : (S.app G a).app H b = S.app (catI G a H) (a + b) := by
  unfold Lb.app
  simp only [Nat.add_assoc]
  congr 1
  funext j
  unfold catI
  by_cases h1 : j < S.n
  · rw [if_pos (show j < S.n + a by omega), if_pos h1, if_pos h1]
  · by_cases h2 : j < S.n + a
    · rw [if_pos h2, if_neg h1, if_neg h1, if_pos (show j - S.n < a by omega)]
    · rw [if_neg h2, if_neg h1, if_neg (show ¬ j - S.n < a by omega)]
      congr 1
      omega
theorem Eqv.of_F {S : Lb} {F G : Nat → In} (h : ∀ j, j < S.n → F j = G j) : Eqv { S with F := F } { S with F := G } := ⟨h, rfl⟩
theorem app_congr (S : Lb) (G H : Nat → In) (k : Nat) (h : ∀ j, j < k → G j = H j) : Eqv (S.app G k) (S.app H k) := by
  refine ⟨fun j hj => ?_, rfl⟩
  have hj' : j < S.n + k := hj
  show catI S.F S.n G j = catI S.F S.n H j
  unfold catI
  split
  · rfl
  · exact h _ (by omega)
theorem app_zero (S : Lb) (G : Nat → In) : Eqv (S.app G 0) S := by
  refine ⟨fun j hj => ?_, by rfl⟩
  have hj' : j < S.n + 0 := hj
  show catI S.F S.n G j = S.F j
  unfold catI
  rw [if_pos (by omega)]
theorem zero_app (S : Lb) (G : Nat → In) : Eqv S (S.app G 0) := by
  refine ⟨fun j hj => ?_, rfl⟩
  show S.F j = catI S.F S.n G j
  unfold catI
  rw [if_pos hj]
theorem rowS_zero (S : Lb) (G : Nat → In) (hn : S.n ≤ 65536) : Eqv S (rowS S 0 G) := by
  unfold rowS
  rw [if_pos (by omega)]
  exact zero_app S G
/-- One more of a row. -/
theorem rowS_one (S : Lb) (m : Nat) (G : Nat → In) (x : In) (hn : S.n ≤ 65536) : Eqv (rowS (rowS S m G) 1 (fun _ => x)) (rowS S (m + 1) (catI G m (fun _ => x))) := by
  by_cases h1 : S.n + m + 1 ≤ 65536
  · have e1 : rowS S m G = S.app G m := by unfold rowS; rw [if_pos (by omega)]
    have e2 : rowS S (m + 1) (catI G m (fun _ => x)) = S.app (catI G m (fun _ => x)) (m + 1) := by unfold rowS; rw [if_pos (by omega)]
    have e3 : rowS (S.app G m) 1 (fun _ => x) = (S.app G m).app (fun _ => x) 1 := by unfold rowS; exact if_pos (show S.n + m + 1 ≤ 65536 by omega)
    rw [e1, e2, e3, app_app]
    exact Eqv.refl _
  · have e2 : rowS S (m + 1) (catI G m (fun _ => x)) = (S.fail 2).app (catI G m (fun _ => x)) (65536 - S.n) := by unfold rowS; rw [if_neg (by omega)]
    have hc : ∀ j, j < 65536 - S.n → G j = catI G m (fun _ => x) j := fun j hj => by unfold catI; rw [if_pos (by omega)]
    by_cases h2 : S.n + m ≤ 65536
    · have e1 : rowS S m G = S.app G m := by unfold rowS; rw [if_pos h2]
      have e3 : rowS (S.app G m) 1 (fun _ => x) = ((S.app G m).fail 2).app (fun _ => x) 0 := by
        unfold rowS
        rw [if_neg (show ¬ (S.app G m).n + 1 ≤ 65536 from fun h => by have h : S.n + m + 1 ≤ 65536 := h; omega)]
        rw [show 65536 - (S.app G m).n = 0 from by show 65536 - (S.n + m) = 0; omega]
      rw [e1, e2, e3, app_fail, show m = 65536 - S.n from by omega]
      refine Eqv.trans' (app_zero _ _) (app_congr _ _ _ _ ?_)
      intro j hj
      unfold catI
      rw [if_pos hj]
    · have e1 : rowS S m G = (S.fail 2).app G (65536 - S.n) := by unfold rowS; rw [if_neg h2]
      have e3 : rowS ((S.fail 2).app G (65536 - S.n)) 1 (fun _ => x) = (((S.fail 2).app G (65536 - S.n)).fail 2).app (fun _ => x) 0 := by
        have hnn : ((S.fail 2).app G (65536 - S.n)).n = 65536 := by show (S.fail 2).n + (65536 - S.n) = 65536; rw [(fail_n S 2).1]; omega
        unfold rowS
        rw [hnn, if_neg (by omega)]
      rw [e1, e2, e3, app_fail, fail_fail]
      exact Eqv.trans' (app_zero _ _) (app_congr _ _ _ _ hc)
end Go.Proofs.Ytnbpgoacooddjaa.Lab
namespace Go.Proofs.Ytnbpgoacooddjaa.Lab
open Go.ChangeShapes Go.WideShapes Go.ChangeAt Go.RowKit Go.Maps Go.Deep
open Go.Proofs.Ytnbpgoacooddjaa.En
set_option linter.unusedVariables false
attribute [local go_sem] rowAt_drew rowAt_drewN
/-- Names with places, as cells. -/
def mkL (nm : Nat → ByteArray) (pl : Nat → Int) : Nat → List Value
  | 0 => []
  | m + 1 => mkL nm pl m ++ [.string (nm m), .int .i64 (pl m)]
theorem mkL_len (nm : Nat → ByteArray) (pl : Nat → Int) : ∀ m, (mkL nm pl m).length = m * 2
  | 0 => rfl
  | m + 1 => by unfold mkL; rw [List.length_append, mkL_len nm pl m]; simp; omega
theorem mkL_at (nm : Nat → ByteArray) (pl : Nat → Int) (j : Nat) : ∀ m, j < m → (mkL nm pl m)[j * 2]? = some (.string (nm j)) ∧ (mkL nm pl m)[j * 2 + 1]? = some (.int .i64 (pl j)) := by
  intro m
  induction m with
  | zero => intro h; omega
  | succ m ih =>
    intro h
    unfold mkL
    rcases Nat.lt_or_ge j m with hj | hj
    · rw [List.getElem?_append_left (by rw [mkL_len]; omega), List.getElem?_append_left (by rw [mkL_len]; omega)]
      exact ih hj
    · obtain rfl : j = m := by omega
      rw [List.getElem?_append_right (by rw [mkL_len]; omega), List.getElem?_append_right (by rw [mkL_len]; omega), mkL_len]
      simp
theorem mkL_congr (nm nm' : Nat → ByteArray) (pl pl' : Nat → Int) : ∀ m, (∀ j, j < m → nm j = nm' j ∧ pl j = pl' j) → mkL nm pl m = mkL nm' pl' m
  | 0, _ => rfl
  | m + 1, h => by unfold mkL; rw [mkL_congr nm nm' pl pl' m fun j hj => h j (by omega), (h m (by omega)).1, (h m (by omega)).2]
theorem mkL_one (nm : Nat → ByteArray) (pl : Nat → Int) (m : Nat) : ∀ u ∈ mkL nm pl m, u.oneCell' = true := by
  induction m with
  | zero => intro u hu; cases hu
  | succ m ih =>
    intro u hu
    unfold mkL at hu
    rcases List.mem_append.1 hu with h | h
    · exact ih u h
    · simp at h
      rcases h with rfl | rfl <;> rfl
def cellsR (at0 : Int) (v1 v2 v3 : Value) (err : Int) : Array Value := #[.int .u64 at0, v1, v2, v3, .int .i64 err]
/-- What a row of labels says, as a map has it. -/
structure RL (D : DataW Unit) (ln : Nat) (lm : Nat → ByteArray) (lt : Nat → Nat) : Prop where
  yes : ∀ i, i < ln → Maps.has D (ky (lm i)) = true ∧ D.atKey (ky (lm i)) (.lit (.int .i64 0)) = .lit (.int .i64 (lt i : Int))
  no : ∀ s, Maps.has D (ky s) = true → ∃ i, i < ln ∧ lm i = s
  sz : ∀ i, i < ln → (lm i).size ≤ maxLen
  tl : ∀ i, i < ln → lt i ≤ 65536
  im : IsMap D
/-- The document's code with labels, and where it lies. -/
structure RfC (w : World) (FP : Nat → Prop) (q : Nat) (S : Lb) (v1 v2 v3 : Value) (lm : Nat → ByteArray) (lt : Nat → Nat) : Prop where
  row : w.heap[q]? = some (.cells (cellsR S.at0 v1 v2 v3 S.err) 74 (0, 0))
  ins : w.ownsRow 0 29 7 v1 S.n (insL S.F S.n)
  lab : w.ownsRow 0 175 2 v2 S.cnt (mkL lm (fun i => (lt i : Int)) S.cnt)
  jmp : w.ownsRow 0 175 2 v3 S.jn (mkL S.nm S.pl S.jn)
  rel : RL S.D S.cnt lm lt
  fp : FP q
  f1 : ∀ g, v1.ownBlock = some g → FP g
  f2 : ∀ g, v2.ownBlock = some g → FP g
  f3 : ∀ g, v3.ownBlock = some g → FP g
  n23 : ∀ g, v2.ownBlock = some g → v3.ownBlock ≠ some g
  fl : ∀ k, FP k → k < w.heap.size
  nl : S.n ≤ 65536
theorem RfC.kept {w w' : World} {FP : Nat → Prop} {q : Nat} {S : Lb} {v1 v2 v3 : Value} {lm : Nat → ByteArray} {lt : Nat → Nat} (h : RfC w FP q S v1 v2 v3 lm lt) (hs : w.heap.size ≤ w'.heap.size) (hk : ∀ k, FP k → w'.heap[k]? = w.heap[k]?) : RfC w' FP q S v1 v2 v3 lm lt where
  row := (hk q h.fp).trans h.row
  ins := ownsRow_kept h.ins fun g hg => hk g (h.f1 g hg)
  lab := ownsRow_kept h.lab fun g hg => hk g (h.f2 g hg)
  jmp := ownsRow_kept h.jmp fun g hg => hk g (h.f3 g hg)
  rel := h.rel
  fp := h.fp
  f1 := h.f1
  f2 := h.f2
  f3 := h.f3
  n23 := h.n23
  fl := fun k hf => Nat.lt_of_lt_of_le (h.fl k hf) hs
  nl := h.nl
section
variable {w : World} {FP : Nat → Prop} {q : Nat} {S : Lb} {v1 v2 v3 : Value} {lm : Nat → ByteArray} {lt : Nat → Nat}
theorem RfC.past {w' : World} (h : RfC w FP q S v1 v2 v3 lm lt) (hb : Below w.heap.size w w') : RfC w' FP q S v1 v2 v3 lm lt :=
  h.kept hb.size fun k hf => hb.block k (h.fl k hf)
theorem RfC.rw (h : RfC w FP q S v1 v2 v3 lm lt) : rowAt w q = some (cellsR S.at0 v1 v2 v3 S.err) := rowAt_of h.row
theorem RfC.p1 (h : RfC w FP q S v1 v2 v3 lm lt) {g : Nat} (hg : v1.ownBlock = some g) : g ≠ q := by
  obtain ⟨cur, hc⟩ := own_heap h.ins hg
  exact ne_of_obj hc h.row (ne_ty (by decide))
theorem RfC.p2 (h : RfC w FP q S v1 v2 v3 lm lt) {g : Nat} (hg : v2.ownBlock = some g) : g ≠ q := by
  obtain ⟨cur, hc⟩ := own_heap h.lab hg
  exact ne_of_obj hc h.row (ne_ty (by decide))
theorem RfC.p3 (h : RfC w FP q S v1 v2 v3 lm lt) {g : Nat} (hg : v3.ownBlock = some g) : g ≠ q := by
  obtain ⟨cur, hc⟩ := own_heap h.jmp hg
  exact ne_of_obj hc h.row (ne_ty (by decide))
theorem RfC.o12 (h : RfC w FP q S v1 v2 v3 lm lt) {g k : Nat} (hg : v1.ownBlock = some g) (hk : v2.ownBlock = some k) : g ≠ k := by
  obtain ⟨cur, hc⟩ := own_heap h.ins hg
  obtain ⟨cur', hc'⟩ := own_heap h.lab hk
  exact ne_of_obj hc hc' (ne_ty (by decide))
theorem RfC.o13 (h : RfC w FP q S v1 v2 v3 lm lt) {g k : Nat} (hg : v1.ownBlock = some g) (hk : v3.ownBlock = some k) : g ≠ k := by
  obtain ⟨cur, hc⟩ := own_heap h.ins hg
  obtain ⟨cur', hc'⟩ := own_heap h.jmp hk
  exact ne_of_obj hc hc' (ne_ty (by decide))
theorem setQ_heap {w : World} {p k : Nat} {C : Array Value} {v : Value} (h : w.heap[p]? = some (.cells C 74 (0, 0))) : (w.setCell ⟨p, k, none⟩ v).heap[p]? = some (.cells (C.setIfInBounds k v) 74 (0, 0)) := by
  rw [setCell_eq_setRow w p k C 74 (0, 0) v h]
  exact setRow_heap _ _ _ _ _ _ h
theorem RfC.congr {T : Lb} (h : RfC w FP q S v1 v2 v3 lm lt) (he : Eqv S T) : RfC w FP q T v1 v2 v3 lm lt := by
  obtain ⟨h1, h2⟩ := he
  rw [← h2]
  have hi : insL S.F S.n = insL T.F S.n := insL_congr _ _ _ h1
  exact ⟨h.row, by have := h.ins; rw [hi] at this; exact this, h.lab, h.jmp, h.rel, h.fp, h.f1, h.f2, h.f3, h.n23, h.fl, h.nl⟩
theorem RfC.setErr (h : RfC w FP q S v1 v2 v3 lm lt) (e : Int) : RfC (w.setCell ⟨q, 4, none⟩ (.int .i64 e)) FP q { S with err := e } v1 v2 v3 lm lt := by
  have hk : ∀ k, k ≠ q → (w.setCell ⟨q, 4, none⟩ (.int .i64 e)).heap[k]? = w.heap[k]? := fun k hn => Below.heap_setCell _ _ _ _ hn
  exact ⟨setQ_heap h.row, ownsRow_kept h.ins fun g hg => hk g (h.p1 hg), ownsRow_kept h.lab fun g hg => hk g (h.p2 hg), ownsRow_kept h.jmp fun g hg => hk g (h.p3 hg), h.rel, h.fp, h.f1, h.f2, h.f3, h.n23, fun k hf => by simpa using h.fl k hf, h.nl⟩
end
/-- What a change leaves. -/
def RfP (w : World) (FP : Nat → Prop) (q : Nat) (S' : Lb) (w' : World) : Prop :=
  ∃ (FP' : Nat → Prop) (v1' v2' v3' : Value) (lm' : Nat → ByteArray) (lt' : Nat → Nat), RfC w' FP' q S' v1' v2' v3' lm' lt' ∧ (∀ k, FP' k → FP k ∨ w.heap.size ≤ k) ∧ (∀ k, FP k → FP' k) ∧ Kp FP w w'
theorem RfP.of {w w' : World} {FP : Nat → Prop} {q : Nat} {S' : Lb} {v1 v2 v3 : Value} {lm : Nat → ByteArray} {lt : Nat → Nat} (h : RfC w' FP q S' v1 v2 v3 lm lt) (hk : Kp FP w w') : RfP w FP q S' w' :=
  ⟨FP, v1, v2, v3, lm, lt, h, fun k hk => .inl hk, fun k hk => hk, hk⟩
theorem RfP.after {w w1 w' : World} {FP : Nat → Prop} {q : Nat} {S' : Lb} (h : RfP w1 FP q S' w') (hk : Kp FP w w1) : RfP w FP q S' w' := by
  obtain ⟨FP', v1', v2', v3', lm', lt', h1, h2, h3, h4⟩ := h
  exact ⟨FP', v1', v2', v3', lm', lt', h1, fun k hf => (h2 k hf).imp id (fun h => Nat.le_trans hk.size h), h3, hk.trans h4 fun k hf => .inl hf⟩
theorem RfP.congr {w w' : World} {FP : Nat → Prop} {q : Nat} {S T : Lb} (h : RfP w FP q S w') (he : Eqv S T) : RfP w FP q T w' := by
  obtain ⟨FP', v1', v2', v3', lm', lt', h1, h2, h3, h4⟩ := h
  exact ⟨FP', v1', v2', v3', lm', lt', h1.congr he, h2, h3, h4⟩
set_option maxRecDepth 100000 in
set_option maxHeartbeats 4000000 in
theorem rfail_c (w : World) (FP : Nat → Prop) (q : Nat) (S : Lb) (v1 v2 v3 : Value) (lm : Nat → ByteArray) (lt : Nat → Nat) (e0 : Int) (h : RfC w FP q S v1 v2 v3 lm lt) :
    Calls Try.prog 116 #[.pointer (some ⟨q, 0, none⟩), .int .i64 e0] w fun e w' => e = .returned (.tuple #[]) ∧ RfC w' FP q (S.fail e0) v1 v2 v3 lm lt ∧ Kp FP w w' := by
  have H := Lib.hid h
  have c4 := rowAt_cell h.rw 4
  have f4 := rowAt_frz h.rw 4
  clear h
  by_cases he : S.err = 0
  · have hS : S.fail e0 = { S with err := e0 } := if_pos he
    rw [hS]
    have HS := Lib.hid (H.out.setErr e0)
    have HK : Hid (Kp FP w (w.setCell ⟨q, 4, none⟩ (.int .i64 e0))) := Lib.hid (kp_set w q 4 _ H.out.fp)
    simp only [cellsR, he] at c4
    go_enter Try.func116, Try.ntmps116
    go_wp2
    refine bodyPost_end (v := .tuple #[]) ?_ rfl ⟨rfl, HS.out, HK.out⟩
    simp [results, Try.f116]
  · have hS : S.fail e0 = S := if_neg he
    rw [hS]
    have hne : (S.err == 0) = false := by simpa using he
    simp only [cellsR] at c4
    go_enter Try.func116, Try.ntmps116
    go_wp2
    refine bodyPost_end (v := .tuple #[]) ?_ rfl ⟨rfl, H.out, Kp.refl _ _⟩
    simp [results, Try.f116]
set_option maxRecDepth 100000 in
set_option maxHeartbeats 4000000 in
theorem find_y (w : World) (FP : Nat → Prop) (q : Nat) (S : Lb) (v1 v2 v3 : Value) (lm : Nat → ByteArray) (lt : Nat → Nat) (s : ByteArray) (t : Nat) (h : RfC w FP q S v1 v2 v3 lm lt) (hc : S.cnt ≤ 1000000) (hh : Maps.has S.D (ky s) = true) (ha : S.D.atKey (ky s) (.lit (.int .i64 0)) = .lit (.int .i64 (t : Int))) :
    Calls Try.prog 118 #[.pointer (some ⟨q, 0, none⟩), .string s] w fun e w' => e = .returned (.int .i64 (t : Int)) ∧ w = w' := by
  have H := Lib.hid h
  have HH := Lib.hid hh
  have HA := Lib.hid ha
  have c2 := rowAt_cell h.rw 2
  obtain ⟨a2, cp2, rfl, _⟩ := own_form h.lab
  simp only [cellsR] at c2
  clear h hh ha
  go_enter Try.func118, Try.ntmps118
  go_wp2
  go_loopw [5] (fun s5 W => ∃ k : Nat, k ≤ S.cnt ∧ s5 = .int .i64 k ∧ Hid (∀ i, i < k → lm i ≠ s) ∧ Hid (w = W)) (fun s5 _ => S.cnt - (intOf s5).toNat)
  case atStart => exact ⟨0, Nat.zero_le _, rfl, Lib.hid (fun i hi => absurd hi (Nat.not_lt_zero _)), Lib.hid rfl⟩
  case round =>
    obtain ⟨k, hk, rfl, HN, HW⟩ := hrel
    obtain rfl := HW.out
    by_cases hlt : k < S.cnt
    · obtain ⟨g, cap', hv, hgb, hgl⟩ := H.out.lab.form (by omega)
      injection hv with e1 e2 e3
      subst e1 e3
      have cs := (own_cells H.out.lab).1 _ _ (mkL_at lm (fun i => (lt i : Int)) k S.cnt hlt).1
      have ci := (own_cells H.out.lab).1 _ _ (mkL_at lm (fun i => (lt i : Int)) k S.cnt hlt).2
      by_cases he : lm k = s
      · have hb : ((lm k).toList == s.toList) = true := by rw [he]; simp
        obtain rfl : lt k = t := by
          have := (H.out.rel.yes k hlt).2
          rw [he, HA.out] at this
          injection this with this
          injection this with _ this
          omega
        clear he
        go_wp2
        go_ret
        exact ⟨rfl, rfl⟩
      · have hb : ((lm k).toList == s.toList) = false := by
          rw [ByteArray.toList_eq, ByteArray.toList_eq]
          simp only [beq_eq_false_iff_ne, ne_eq]
          exact fun hd => he (bytes_inj hd)
        have HN2 : Hid (∀ i, i < k + 1 → lm i ≠ s) := Lib.hid (fun i hi => by
          rcases Nat.lt_or_ge i k with h1 | h1
          · exact HN.out i h1
          · rw [show i = k by omega]; exact he)
        clear he
        go_wp2
        go_roundw
        case rel => exact ⟨k + 1, by omega, by go_num, HN2, Lib.hid (by trivial)⟩
        case measure => simp [intOf]; omega
    · exfalso
      obtain ⟨i, hi, he⟩ := H.out.rel.no s HH.out
      exact HN.out i (by omega) he
set_option maxRecDepth 100000 in
set_option maxHeartbeats 4000000 in
theorem find_n (w : World) (FP : Nat → Prop) (q : Nat) (S : Lb) (v1 v2 v3 : Value) (lm : Nat → ByteArray) (lt : Nat → Nat) (s : ByteArray) (h : RfC w FP q S v1 v2 v3 lm lt) (hc : S.cnt ≤ 1000000) (hh : Maps.has S.D (ky s) = false) :
    Calls Try.prog 118 #[.pointer (some ⟨q, 0, none⟩), .string s] w fun e w' => e = .returned (.int .i64 (-1)) ∧ w = w' := by
  have H := Lib.hid h
  have HH := Lib.hid hh
  have c2 := rowAt_cell h.rw 2
  obtain ⟨a2, cp2, rfl, _⟩ := own_form h.lab
  simp only [cellsR] at c2
  clear h hh
  go_enter Try.func118, Try.ntmps118
  go_wp2
  go_loopw [5] (fun s5 W => ∃ k : Nat, k ≤ S.cnt ∧ s5 = .int .i64 k ∧ Hid (w = W)) (fun s5 _ => S.cnt - (intOf s5).toNat)
  case atStart => exact ⟨0, Nat.zero_le _, rfl, Lib.hid rfl⟩
  case round =>
    obtain ⟨k, hk, rfl, HW⟩ := hrel
    obtain rfl := HW.out
    by_cases hlt : k < S.cnt
    · obtain ⟨g, cap', hv, hgb, hgl⟩ := H.out.lab.form (by omega)
      injection hv with e1 e2 e3
      subst e1 e3
      have cs := (own_cells H.out.lab).1 _ _ (mkL_at lm (fun i => (lt i : Int)) k S.cnt hlt).1
      have hb : ((lm k).toList == s.toList) = false := by
        rw [ByteArray.toList_eq, ByteArray.toList_eq]
        simp only [beq_eq_false_iff_ne, ne_eq]
        intro hd
        have := (H.out.rel.yes k hlt).1
        rw [bytes_inj hd, HH.out] at this
        cases this
      go_wp2
      go_roundw
      case rel => exact ⟨k + 1, by omega, by go_num, Lib.hid (by trivial)⟩
      case measure => simp [intOf]; omega
    · obtain rfl : k = S.cnt := by omega
      go_wp2
      go_ret
      exact ⟨rfl, rfl⟩
end Go.Proofs.Ytnbpgoacooddjaa.Lab
namespace Go.Proofs.Ytnbpgoacooddjaa.Lab
open Go.ChangeShapes Go.WideShapes Go.ChangeAt Go.RowKit Go.Maps Go.Deep
open Go.Proofs.Ytnbpgoacooddjaa.En
set_option linter.unusedVariables false
attribute [local go_sem] rowAt_drew rowAt_drewN
section
variable {w : World} {FP : Nat → Prop} {q : Nat} {S : Lb} {v1 v2 v3 : Value} {lm : Nat → ByteArray} {lt : Nat → Nat}
/-- Behind an append to its instructions, and the store of them. -/
theorem RfC.apped (h : RfC w FP q S v1 v2 v3 lm lt) {w1 : World} {v' : Value} {G : Nat → In} {m : Nat} (ho : w1.ownsRow 0 29 7 v' (S.n + m) (insL S.F S.n ++ insL G m)) (hg : w.grownBy w1 v1.ownBlock) (hl : v'.ownBlock = v1.ownBlock ∨ v'.ownBlock = some w.heap.size) (hn : S.n + m ≤ 65536) :
    RfP w FP q (S.app G m) (w1.setCell ⟨q, 1, none⟩ v') := by
  have hq1 : w1.heap[q]? = some (.cells (cellsR S.at0 v1 v2 v3 S.err) 74 (0, 0)) := (hg.block q (h.fl q h.fp) (fun e => h.p1 e.symm rfl)).trans h.row
  have hne : ∀ k, k ≠ q → (w1.setCell ⟨q, 1, none⟩ v').heap[k]? = w1.heap[k]? := fun k hk => Below.heap_setCell _ _ _ _ hk
  have hown : ∀ g, v'.ownBlock = some g → g ≠ q := fun g hg' => by
    obtain ⟨cur, hc⟩ := own_heap ho hg'
    exact ne_of_obj hc hq1 (ne_ty (by decide))
  have hs : (w1.setCell ⟨q, 1, none⟩ v').heap.size = w1.heap.size := by simp
  refine ⟨fun k => FP k ∨ v'.ownBlock = some k, v', v2, v3, lm, lt, ⟨setQ_heap hq1, ?_, ?_, ?_, h.rel, .inl h.fp, fun g hg => .inr hg, fun g hg => .inl (h.f2 g hg), fun g hg => .inl (h.f3 g hg), h.n23, fun k hf => ?_, hn⟩, fun k hf => ?_, fun k hf => .inl hf, ?_⟩
  · refine ownsRow_kept ?_ fun g hg' => hne g (hown g hg')
    show w1.ownsRow 0 29 7 v' (S.n + m) (insL (catI S.F S.n G) (S.n + m))
    rw [← insL_cat]
    exact ho
  · exact ownsRow_kept h.lab fun g hg' => (hne g (h.p2 hg')).trans (hg.block g (h.fl g (h.f2 g hg')) (fun e => h.o12 e.symm hg' rfl))
  · exact ownsRow_kept h.jmp fun g hg' => (hne g (h.p3 hg')).trans (hg.block g (h.fl g (h.f3 g hg')) (fun e => h.o13 e.symm hg' rfl))
  · rw [hs]
    rcases hf with hf | hf
    · exact Nat.lt_of_lt_of_le (h.fl k hf) hg.size
    · obtain ⟨cur, hc⟩ := own_heap ho hf
      exact (Array.getElem?_eq_some_iff.1 hc).1
  · rcases hf with hf | hf
    · exact .inl hf
    · rcases hl with hl | hl
      · exact .inl (h.f1 k (hl.symm.trans hf))
      · rw [hl] at hf
        injection hf with hf
        exact .inr (Nat.le_of_eq hf)
  · exact (Kp.of_grown hg (fun b hb => h.f1 b hb)).trans (kp_set (FP := FP) w1 q 1 v' h.fp) fun k hf => .inl hf
end
/-- What room (117) tells. -/
theorem room_c (w : World) (FP : Nat → Prop) (q : Nat) (S : Lb) (v1 v2 v3 : Value) (lm : Nat → ByteArray) (lt : Nat → Nat) (A : Option Addr) (m cap : Nat) (G : Nat → In) (h : RfC w FP q S v1 v2 v3 lm lt) (hm : m ≤ 9223372036854775807) (hcap : m ≤ cap) (hA : 0 < m → ∀ b off, A = some ⟨b, off, none⟩ → ¬ FP b) (HS : Hid (SrcI w A m G)) :
    Calls Try.prog 117 #[.pointer (some ⟨q, 0, none⟩), .slice A m cap] w fun e w' => ∃ (S1 : Lb) (k : Nat), e = .returned (.slice A k cap) ∧ RfC w' FP q S1 v1 v2 v3 lm lt ∧ Kp FP w w' ∧ SrcI w' A k G ∧ S1.n + k ≤ 65536 ∧ S1.app G k = rowS S m G ∧ S1.n = S.n ∧ S1.F = S.F ∧ ((S.n + m ≤ 65536 ∧ S1 = S ∧ k = m) ∨ (65536 < S.n + m ∧ S1 = S.fail 2 ∧ k = 65536 - S.n)) := by
  have H := Lib.hid h
  have hnl := h.nl
  have c1 := rowAt_cell h.rw 1
  obtain ⟨a1, cp1, rfl, _⟩ := own_form h.ins
  simp only [cellsR] at c1
  clear h
  by_cases hf : S.n + m ≤ 65536
  · have hd : decide ((65536 : Int) - S.n < m) = false := decide_eq_false (by omega)
    go_enter Try.func117, Try.ntmps117
    go_wp2
    go_ret
    exact ⟨S, m, rfl, H.out, Kp.refl _ _, HS.out, hf, by unfold rowS; rw [if_pos hf], rfl, rfl, .inl ⟨hf, rfl, rfl⟩⟩
  · obtain ⟨k, hk⟩ : ∃ k, 65536 - S.n = k := ⟨_, rfl⟩
    have hk' : (65536 : Int) - S.n = k := by omega
    have hkm : k < m := by omega
    obtain ⟨b, off, rfl, hbl, hin⟩ : ∃ b off, A = some ⟨b, off, none⟩ ∧ b < w.heap.size ∧ InsAt w b off m G := by
      rcases HS.out with h | h
      · omega
      · exact h
    have HSk : Hid (SrcI w (some ⟨b, off, none⟩) k G) := Lib.hid (.inr ⟨b, off, rfl, hbl, fun j hj => hin j (by omega)⟩)
    have HA := Lib.hid (hA (by omega))
    have hn : (S.fail 2).n = S.n := (fail_n S 2).1
    have hF : (S.fail 2).F = S.F := (fail_n S 2).2.1
    have hrow : (S.fail 2).app G k = rowS S m G := by unfold rowS; rw [if_neg hf, hk]
    clear hin hbl hA
    obtain ⟨T, hT⟩ : ∃ T, S.fail 2 = T := ⟨_, rfl⟩
    rw [hT] at hn hF hrow
    have HT := Lib.hid hT
    have HROW := Lib.hid hrow
    have HF := Lib.hid hF
    clear hT hrow hF
    have hd : decide ((65536 : Int) - S.n < m) = true := decide_eq_true (by omega)
    go_enter Try.func117, Try.ntmps117
    go_wp2_with (go_at_call 116; refine (rfail_c _ FP q S _ v2 v3 lm lt 2 H.out).mono ?_; rintro e w2 ⟨rfl, hc2, hk2⟩; rw [HT.out] at hc2; have HC2 := Lib.hid hc2; have HK2 := Lib.hid hk2; have HS2 := Lib.hid (SrcI_kp HSk.out hk2 HA.out); have c1 := rowAt_cell hc2.rw 1; simp only [cellsR] at c1; clear hc2 hk2)
    go_ret
    refine ⟨T, k, rfl, HC2.out, HK2.out, HS2.out, by omega, HROW.out, hn, HF.out, .inr ⟨by omega, HT.out.symm, hk.symm⟩⟩
set_option maxRecDepth 100000 in
set_option maxHeartbeats 8000000 in
theorem rput_c (w : World) (FP : Nat → Prop) (q : Nat) (S : Lb) (v1 v2 v3 : Value) (lm : Nat → ByteArray) (lt : Nat → Nat) (A : Option Addr) (m cap : Nat) (G : Nat → In) (h : RfC w FP q S v1 v2 v3 lm lt) (hm : m ≤ 9223372036854775807) (hcap : m ≤ cap) (hA : 0 < m → ∀ b off, A = some ⟨b, off, none⟩ → ¬ FP b) (HS : Hid (SrcI w A m G)) :
    Calls Try.prog 34 #[.pointer (some ⟨q, 0, none⟩), .slice A m cap] w fun e w' => e = .returned (.tuple #[]) ∧ ((good G m ∧ RfP w FP q (rowS S m G) w') ∨ (¬ good G m ∧ RfP w FP q (S.fail 1) w')) := by
  have H := Lib.hid h
  have HA := Lib.hid hA
  have HCAP := Lib.hid hcap
  have hnl := h.nl
  obtain ⟨a1, cp1, rfl, _⟩ := own_form h.ins
  clear h hA hcap
  go_enter Try.func34, Try.ntmps34
  go_wp2
  go_loopw [4] (fun s4 W => ∃ k : Nat, k ≤ m ∧ s4 = .int .i64 k ∧ Hid (good G k) ∧ Hid (Below w.heap.size w W)) (fun s4 _ => m - (intOf s4).toNat)
  case atStart => exact ⟨0, Nat.zero_le _, rfl, Lib.hid (fun j h => by omega), Lib.hid (Below.refl _ _)⟩
  case round =>
    obtain ⟨k, hk, rfl, HG, HB⟩ := hrel
    by_cases hlt : k < m
    · obtain ⟨b, off, rfl, hb, hc⟩ : ∃ b off, A = some ⟨b, off, none⟩ ∧ b < w.heap.size ∧ InsAt w b off m G := by
        rcases HS.out with h | h
        · omega
        · exact h
      obtain ⟨c0, c1, c2, c3, c4, c5, c6⟩ := (hc.past hb HB.out) k hlt
      clear hc
      obtain ⟨x, hx⟩ : ∃ x, x = G k := ⟨_, rfl⟩
      rw [← hx] at c0 c1 c2 c3 c4 c5 c6
      have HX := Lib.hid hx
      clear hx
      have hp := x.rcheck wr
      rcases x.e_or with he | he
      · have HG4 : Hid (good G (k + 1)) := Lib.hid (fun j hj => by
          rcases Nat.lt_or_ge j k with h | h
          · exact HG.out j h
          · rw [show j = k from by omega, ← HX.out]; exact he)
        rw [he] at hp
        have HP : Hid (Calls Try.prog 83 #[.agg #[.int .i64 x.op, .int .i64 x.d, .int .i64 x.n, .int .i64 x.m, .int .i64 x.a, .int .i64 x.c, .int .i64 x.i]] wr fun e w' => e = .returned (.int .i64 0) ∧ Below wr.heap.size wr w') := Lib.hid hp
        clear hp he
        go_wp2_with (go_at_call 83; refine HP.out.mono ?_; rintro e w3 ⟨rfl, hb3⟩; have HB3 := Lib.hid (below_step HB.out hb3 rfl rfl rfl rfl); clear hb3)
        go_roundw
        case rel => exact ⟨k + 1, by omega, by go_num, HG4, HB3⟩
        case measure => simp [intOf]; omega
      · have HN : Hid (¬ good G m) := Lib.hid (fun h => by
          have := h k hlt
          rw [← HX.out, he] at this
          cases this)
        rw [he] at hp
        have HP : Hid (Calls Try.prog 83 #[.agg #[.int .i64 x.op, .int .i64 x.d, .int .i64 x.n, .int .i64 x.m, .int .i64 x.a, .int .i64 x.c, .int .i64 x.i]] wr fun e w' => e = .returned (.int .i64 1) ∧ Below wr.heap.size wr w') := Lib.hid hp
        clear hp he
        go_wp2_with (first | (go_at_call 83; refine HP.out.mono ?_; rintro e w3 ⟨rfl, hb3⟩; have HB3 := Lib.hid (below_step HB.out hb3 rfl rfl rfl rfl); clear hb3) | (go_at_call 116; refine (rfail_c _ FP q S _ v2 v3 lm lt 1 (H.out.past HB3.out)).mono ?_; rintro e w4 ⟨rfl, hc4, hk4⟩; have HC4 := Lib.hid hc4; have HK4 := Lib.hid hk4; clear hc4 hk4))
        refine bodyPost_ret (results_none rfl _ _ _) rfl ⟨rfl, .inr ⟨HN.out, RfP.of HC4.out ((Kp.of_below HB3.out).trans HK4.out fun k hf => .inl hf)⟩⟩
    · obtain rfl : m = k := by omega
      have HGD := HG
      go_upto_region 5 with (fail)
      have hbd : Below w.heap.size w wr.drew := HB.out.trans ((Below.refl _ _).drew)
      have HKd : Hid (Kp FP w wr.drew) := Lib.hid (Kp.of_below hbd)
      have Hd := Lib.hid (H.out.past hbd)
      have HSd := Lib.hid (HS.out.past hbd)
      clear hbd
      refine wp_region_held_drew (S := fun _ => True) (by kernel_rfl) trivial (fun hHeld => ?_)
      generalize wr.drew = V at HKd Hd HSd hHeld ⊢
      refine wpAnyH_take (i := 0) (oi := { dst := some 19, op := Op.move (Operand.tmp 0), type := 71, pos := "ref.go:70", after := #[], guard := none }) (v := ?_) rfl (by kernel_rfl) (by kernel_rfl) (by kernel_rfl) (fun _ _ _ h => h) (Or.inl ⟨by rfl, ?_⟩) (by assumption) ?_
      rotate_left
      · (intro w0 hSw; (try dsimp only at hSw); go_split_ands; go_simp; with_reducible rfl)
      try simp only [Act.put, List.setIfInBounds_toArray, List.set_cons_zero, List.set_cons_succ]
      refine wpAnyH_take (i := 1) (oi := { dst := some 20, op := Op.move (Operand.tmp 0), type := 71, pos := "ref.go:70", after := #[], guard := none }) (v := ?_) rfl (by kernel_rfl) (by kernel_rfl) (by kernel_rfl) (fun _ _ _ h => h) (Or.inl ⟨by rfl, ?_⟩) (by assumption) ?_
      rotate_left
      · (intro w0 hSw; (try dsimp only at hSw); go_split_ands; go_simp; with_reducible rfl)
      try simp only [Act.put, List.setIfInBounds_toArray, List.set_cons_zero, List.set_cons_succ]
      refine wpAnyH_take (i := 2) (oi := { dst := some 21, op := Op.nilCheck (Operand.tmp 20), type := 0, pos := "ref.go:70", after := #[{ on := 1, ground := Ground.data }], guard := none }) (v := ?_) rfl (by kernel_rfl) (by kernel_rfl) (by kernel_rfl) (fun _ _ _ h => h) (Or.inl ⟨by rfl, ?_⟩) (by assumption) ?_
      rotate_left
      · (intro w0 hSw; (try dsimp only at hSw); go_split_ands; go_simp; with_reducible rfl)
      try simp only [Act.put, List.setIfInBounds_toArray, List.set_cons_zero, List.set_cons_succ]
      refine wpAnyH_take (i := 3) (oi := { dst := some 22, op := Op.fieldAddr 74 (Operand.tmp 21) 1, type := 0, pos := "ref.go:70", after := #[{ on := 2, ground := Ground.data }], guard := none }) (v := ?_) rfl (by kernel_rfl) (by kernel_rfl) (by kernel_rfl) (fun _ _ _ h => h) (Or.inl ⟨by rfl, ?_⟩) (by assumption) ?_
      rotate_left
      · (intro w0 hSw; (try dsimp only at hSw); go_split_ands; go_simp; with_reducible rfl)
      try simp only [Act.put, List.setIfInBounds_toArray, List.set_cons_zero, List.set_cons_succ]
      refine wpAnyH_take (i := 5) (oi := { dst := some 24, op := Op.move (Operand.tmp 0), type := 71, pos := "ref.go:70", after := #[], guard := none }) (v := ?_) rfl (by kernel_rfl) (by kernel_rfl) (by kernel_rfl) (fun _ _ _ h => h) (Or.inl ⟨by rfl, ?_⟩) (by assumption) ?_
      rotate_left
      · (intro w0 hSw; (try dsimp only at hSw); go_split_ands; go_simp; with_reducible rfl)
      try simp only [Act.put, List.setIfInBounds_toArray, List.set_cons_zero, List.set_cons_succ]
      refine wpAnyH_take (i := 6) (oi := { dst := some 25, op := Op.move (Operand.tmp 1), type := 63, pos := "ref.go:70", after := #[], guard := none }) (v := ?_) rfl (by kernel_rfl) (by kernel_rfl) (by kernel_rfl) (fun _ _ _ h => h) (Or.inl ⟨by rfl, ?_⟩) (by assumption) ?_
      rotate_left
      · (intro w0 hSw; (try dsimp only at hSw); go_split_ands; go_simp; with_reducible rfl)
      try simp only [Act.put, List.setIfInBounds_toArray, List.set_cons_zero, List.set_cons_succ]
      refine wpAnyH_ready (rs := [4, 7]) (by kernel_rfl) (by simp) ?_
      refine AllReadyH.cons (o := { dst := some 23, op := Op.load 63 (Operand.tmp 22), type := 63, pos := "ref.go:70", after := #[{ on := 3, ground := Ground.data }], guard := none }) rfl (fun K hK => ?_) (AllReadyH.cons (o := { dst := some 26, op := Op.call { callee := Callee.value (Operand.func 117), args := #[Operand.tmp 24, Operand.tmp 25], argTypes := #[71, 63] }, type := 63, pos := "ref.go:70", after := #[{ on := 5, ground := Ground.data }, { on := 6, ground := Ground.data }], guard := none }) rfl (fun K hK => ?_) AllReadyH.nil)
      · have c1 := rowAt_cell Hd.out.rw 1
        simp only [cellsR] at c1
        go_simp
        refine hK.out _ _ trivial (fun hHeld => ?_)
        clear hK K
        try simp only [Act.put, List.setIfInBounds_toArray, List.set_cons_zero, List.set_cons_succ]
        refine wpAnyH_ready (rs := [7]) (by kernel_rfl) (by simp) ?_
        refine AllReadyH.cons (o := { dst := some 26, op := Op.call { callee := Callee.value (Operand.func 117), args := #[Operand.tmp 24, Operand.tmp 25], argTypes := #[71, 63] }, type := 63, pos := "ref.go:70", after := #[{ on := 5, ground := Ground.data }, { on := 6, ground := Ground.data }], guard := none }) rfl (fun K hK => ?_) AllReadyH.nil
        go_simp
        go_at_call 117
        refine (room_c _ FP q S _ v2 v3 lm lt A m cap G Hd.out (by omega) HCAP.out HA.out HSd).mono ?_
        rintro e w2 ⟨S1, k, rfl, hc2, hk2, hs2, hle, hrow, hn, hF, _⟩
        have HC2 := Lib.hid hc2
        have HK2 := Lib.hid hk2
        have HS2 := Lib.hid hs2
        have HROW := Lib.hid hrow
        have HI2 : Hid (w2.ownsRow 0 29 7 (.slice a1 S.n cp1) S.n (insL S.F S.n)) := Lib.hid (by have := hc2.ins; rw [hn, hF] at this; exact this)
        clear hc2 hk2 hs2 hrow
        refine hK.out _ _ trivial (fun hHeld => ?_)
        clear hK K
        try simp only [Act.put, List.setIfInBounds_toArray, List.set_cons_zero, List.set_cons_succ]
        refine wpAnyH_ready (rs := [8]) (by kernel_rfl) (by simp) ?_
        refine AllReadyH.cons (o := { dst := some 27, op := Op.call { callee := Callee.builtin Builtin.append, args := #[Operand.tmp 23, Operand.tmp 26], argTypes := #[63, 63] }, type := 63, pos := "ref.go:70", after := #[{ on := 4, ground := Ground.data }, { on := 7, ground := Ground.data }, { on := 7, ground := Ground.chain }], guard := none }) rfl (fun K hK => ?_) AllReadyH.nil
        obtain ⟨v', w3, hr, ho3, hg3, hl3⟩ := run_append7 w2 63 0 (.slice a1 S.n cp1) S.n _ HI2.out A k cap G HS2.out (by omega) (Nat.zero_le _)
        obtain ⟨a3, cp3, rfl, _⟩ := own_form ho3
        have hP3 := HC2.out.apped (by rw [hn, hF]; exact ho3) hg3 hl3 hle
        rw [HROW.out] at hP3
        have HP3 := Lib.hid hP3
        have hrow3 : rowAt w3 q = some (cellsR S1.at0 (.slice a1 S.n cp1) v2 v3 S1.err) := rowAt_of ((hg3.block q (HC2.out.fl q HC2.out.fp) (fun e => HC2.out.p1 e.symm rfl)).trans HC2.out.row)
        have c13 := rowAt_cell hrow3 1
        have f13 := rowAt_frz hrow3 1
        simp only [cellsR] at c13
        clear hrow3 hP3
        refine step_append_run rfl _ _ _ rfl _ _ _ _ rfl rfl hr ?_
        refine hK.out _ _ trivial (fun hHeld => ?_)
        clear hK K
        try simp only [Act.put, List.setIfInBounds_toArray, List.set_cons_zero, List.set_cons_succ]
        refine wpAnyH_take (i := 9) (oi := { dst := some 28, op := Op.nilCheck (Operand.tmp 19), type := 0, pos := "ref.go:70", after := #[{ on := 0, ground := Ground.data }, { on := 0, ground := Ground.phase }, { on := 1, ground := Ground.phase }, { on := 2, ground := Ground.phase }, { on := 3, ground := Ground.phase }, { on := 4, ground := Ground.phase }, { on := 5, ground := Ground.phase }, { on := 6, ground := Ground.phase }, { on := 7, ground := Ground.phase }, { on := 8, ground := Ground.phase }], guard := none }) (v := ?_) rfl (by kernel_rfl) (by kernel_rfl) (by kernel_rfl) (fun _ _ _ h => h) (Or.inl ⟨by rfl, ?_⟩) (by assumption) ?_
        rotate_left
        · (intro w0 hSw; (try dsimp only at hSw); go_split_ands; go_simp; with_reducible rfl)
        try simp only [Act.put, List.setIfInBounds_toArray, List.set_cons_zero, List.set_cons_succ]
        refine wpAnyH_take (i := 10) (oi := { dst := some 29, op := Op.fieldAddr 74 (Operand.tmp 28) 1, type := 0, pos := "ref.go:70", after := #[{ on := 9, ground := Ground.data }, { on := 0, ground := Ground.phase }, { on := 1, ground := Ground.phase }, { on := 2, ground := Ground.phase }, { on := 3, ground := Ground.phase }, { on := 4, ground := Ground.phase }, { on := 5, ground := Ground.phase }, { on := 6, ground := Ground.phase }, { on := 7, ground := Ground.phase }, { on := 8, ground := Ground.phase }], guard := none }) (v := ?_) rfl (by kernel_rfl) (by kernel_rfl) (by kernel_rfl) (fun _ _ _ h => h) (Or.inl ⟨by rfl, ?_⟩) (by assumption) ?_
        rotate_left
        · (intro w0 hSw; (try dsimp only at hSw); go_split_ands; go_simp; with_reducible rfl)
        try simp only [Act.put, List.setIfInBounds_toArray, List.set_cons_zero, List.set_cons_succ]
        refine wpAnyH_ready (rs := [11]) (by kernel_rfl) (by simp) ?_
        refine AllReadyH.cons (o := { dst := none, op := Op.store 63 (Operand.tmp 29) (Operand.tmp 27), type := 0, pos := "ref.go:70", after := #[{ on := 10, ground := Ground.data }, { on := 8, ground := Ground.data }, { on := 8, ground := Ground.chain }, { on := 0, ground := Ground.phase }, { on := 1, ground := Ground.phase }, { on := 2, ground := Ground.phase }, { on := 3, ground := Ground.phase }, { on := 4, ground := Ground.phase }, { on := 5, ground := Ground.phase }, { on := 6, ground := Ground.phase }, { on := 7, ground := Ground.phase }, { on := 8, ground := Ground.phase }], guard := none }) rfl (fun K hK => ?_) AllReadyH.nil
        go_simp
        refine hK.out _ _ trivial (fun hHeld => ?_)
        clear hK K
        try simp only [Act.put, List.setIfInBounds_toArray, List.set_cons_zero, List.set_cons_succ]
        refine wpAnyH_done (by kernel_rfl) ?_ _
        clear hHeld
        go_end0
        exact ⟨rfl, .inl ⟨HGD.out, (HP3.out.after HK2.out).after HKd.out⟩⟩
      · go_simp
        go_at_call 117
        refine (room_c _ FP q S _ v2 v3 lm lt A m cap G Hd.out (by omega) HCAP.out HA.out HSd).mono ?_
        rintro e w2 ⟨S1, k, rfl, hc2, hk2, hs2, hle, hrow, hn, hF, _⟩
        have HC2 := Lib.hid hc2
        have HK2 := Lib.hid hk2
        have HS2 := Lib.hid hs2
        have HROW := Lib.hid hrow
        have HI2 : Hid (w2.ownsRow 0 29 7 (.slice a1 S.n cp1) S.n (insL S.F S.n)) := Lib.hid (by have := hc2.ins; rw [hn, hF] at this; exact this)
        clear hc2 hk2 hs2 hrow
        refine hK.out _ _ trivial (fun hHeld => ?_)
        clear hK K
        try simp only [Act.put, List.setIfInBounds_toArray, List.set_cons_zero, List.set_cons_succ]
        refine wpAnyH_ready (rs := [4]) (by kernel_rfl) (by simp) ?_
        refine AllReadyH.cons (o := { dst := some 23, op := Op.load 63 (Operand.tmp 22), type := 63, pos := "ref.go:70", after := #[{ on := 3, ground := Ground.data }], guard := none }) rfl (fun K hK => ?_) AllReadyH.nil
        have c1 := rowAt_cell HC2.out.rw 1
        simp only [cellsR] at c1
        go_simp
        refine hK.out _ _ trivial (fun hHeld => ?_)
        clear hK K
        try simp only [Act.put, List.setIfInBounds_toArray, List.set_cons_zero, List.set_cons_succ]
        refine wpAnyH_ready (rs := [8]) (by kernel_rfl) (by simp) ?_
        refine AllReadyH.cons (o := { dst := some 27, op := Op.call { callee := Callee.builtin Builtin.append, args := #[Operand.tmp 23, Operand.tmp 26], argTypes := #[63, 63] }, type := 63, pos := "ref.go:70", after := #[{ on := 4, ground := Ground.data }, { on := 7, ground := Ground.data }, { on := 7, ground := Ground.chain }], guard := none }) rfl (fun K hK => ?_) AllReadyH.nil
        obtain ⟨v', w3, hr, ho3, hg3, hl3⟩ := run_append7 w2 63 0 (.slice a1 S.n cp1) S.n _ HI2.out A k cap G HS2.out (by omega) (Nat.zero_le _)
        obtain ⟨a3, cp3, rfl, _⟩ := own_form ho3
        have hP3 := HC2.out.apped (by rw [hn, hF]; exact ho3) hg3 hl3 hle
        rw [HROW.out] at hP3
        have HP3 := Lib.hid hP3
        have hrow3 : rowAt w3 q = some (cellsR S1.at0 (.slice a1 S.n cp1) v2 v3 S1.err) := rowAt_of ((hg3.block q (HC2.out.fl q HC2.out.fp) (fun e => HC2.out.p1 e.symm rfl)).trans HC2.out.row)
        have c13 := rowAt_cell hrow3 1
        have f13 := rowAt_frz hrow3 1
        simp only [cellsR] at c13
        clear hrow3 hP3
        refine step_append_run rfl _ _ _ rfl _ _ _ _ rfl rfl hr ?_
        refine hK.out _ _ trivial (fun hHeld => ?_)
        clear hK K
        try simp only [Act.put, List.setIfInBounds_toArray, List.set_cons_zero, List.set_cons_succ]
        refine wpAnyH_take (i := 9) (oi := { dst := some 28, op := Op.nilCheck (Operand.tmp 19), type := 0, pos := "ref.go:70", after := #[{ on := 0, ground := Ground.data }, { on := 0, ground := Ground.phase }, { on := 1, ground := Ground.phase }, { on := 2, ground := Ground.phase }, { on := 3, ground := Ground.phase }, { on := 4, ground := Ground.phase }, { on := 5, ground := Ground.phase }, { on := 6, ground := Ground.phase }, { on := 7, ground := Ground.phase }, { on := 8, ground := Ground.phase }], guard := none }) (v := ?_) rfl (by kernel_rfl) (by kernel_rfl) (by kernel_rfl) (fun _ _ _ h => h) (Or.inl ⟨by rfl, ?_⟩) (by assumption) ?_
        rotate_left
        · (intro w0 hSw; (try dsimp only at hSw); go_split_ands; go_simp; with_reducible rfl)
        try simp only [Act.put, List.setIfInBounds_toArray, List.set_cons_zero, List.set_cons_succ]
        refine wpAnyH_take (i := 10) (oi := { dst := some 29, op := Op.fieldAddr 74 (Operand.tmp 28) 1, type := 0, pos := "ref.go:70", after := #[{ on := 9, ground := Ground.data }, { on := 0, ground := Ground.phase }, { on := 1, ground := Ground.phase }, { on := 2, ground := Ground.phase }, { on := 3, ground := Ground.phase }, { on := 4, ground := Ground.phase }, { on := 5, ground := Ground.phase }, { on := 6, ground := Ground.phase }, { on := 7, ground := Ground.phase }, { on := 8, ground := Ground.phase }], guard := none }) (v := ?_) rfl (by kernel_rfl) (by kernel_rfl) (by kernel_rfl) (fun _ _ _ h => h) (Or.inl ⟨by rfl, ?_⟩) (by assumption) ?_
        rotate_left
        · (intro w0 hSw; (try dsimp only at hSw); go_split_ands; go_simp; with_reducible rfl)
        try simp only [Act.put, List.setIfInBounds_toArray, List.set_cons_zero, List.set_cons_succ]
        refine wpAnyH_ready (rs := [11]) (by kernel_rfl) (by simp) ?_
        refine AllReadyH.cons (o := { dst := none, op := Op.store 63 (Operand.tmp 29) (Operand.tmp 27), type := 0, pos := "ref.go:70", after := #[{ on := 10, ground := Ground.data }, { on := 8, ground := Ground.data }, { on := 8, ground := Ground.chain }, { on := 0, ground := Ground.phase }, { on := 1, ground := Ground.phase }, { on := 2, ground := Ground.phase }, { on := 3, ground := Ground.phase }, { on := 4, ground := Ground.phase }, { on := 5, ground := Ground.phase }, { on := 6, ground := Ground.phase }, { on := 7, ground := Ground.phase }, { on := 8, ground := Ground.phase }], guard := none }) rfl (fun K hK => ?_) AllReadyH.nil
        go_simp
        refine hK.out _ _ trivial (fun hHeld => ?_)
        clear hK K
        try simp only [Act.put, List.setIfInBounds_toArray, List.set_cons_zero, List.set_cons_succ]
        refine wpAnyH_done (by kernel_rfl) ?_ _
        clear hHeld
        go_end0
        exact ⟨rfl, .inl ⟨HGD.out, (HP3.out.after HK2.out).after HKd.out⟩⟩

end Go.Proofs.Ytnbpgoacooddjaa.Lab
namespace Go.Proofs.Ytnbpgoacooddjaa.Lab
open Go.ChangeShapes Go.WideShapes Go.ChangeAt Go.RowKit Go.Maps Go.Deep
open Go.Proofs.Ytnbpgoacooddjaa.En
set_option linter.unusedVariables false
attribute [local go_sem] rowAt_drew rowAt_drewN
theorem info175 : (Try.prog.info? 175).map (fun i => (i.zero, i.size, i.bytes)) = some (some (.agg #[.string ByteArray.empty, .int .i64 0]), 2, 24) := by kernel_rfl
theorem run_append2 (w : World) (ty : TypeId) (v : Value) (n : Nat) (xs : List Value) (hown : w.ownsRow 0 175 2 v n xs) (g : Nat) (s : ByteArray) (k : Int) (hg : rowAt w g = some #[.string s, .int .i64 k]) (hn : n < 10000000) :
    ∃ v' w', (Builtin.append_ #[72, 72] ty #[v, .slice (some ⟨g, 0, none⟩) 1 1]).run Try.prog w = .ok v' w' ∧ w'.ownsRow 0 175 2 v' (n + 1) (xs ++ [.string s, .int .i64 k]) ∧ w.grownBy w' v.ownBlock ∧ (v'.ownBlock = v.ownBlock ∨ v'.ownBlock = some w.heap.size) := by
  have hb := info175
  cases hi : Try.prog.info? 175 with
  | none => rw [hi] at hb; cases hb
  | some i =>
    rw [hi] at hb
    simp only [Option.map_some, Option.some.injEq, Prod.mk.injEq] at hb
    obtain ⟨hz0, hz1, hz2⟩ := hb
    have hnews : ∀ j u, ([.string s, .int .i64 k] : List Value)[j]? = some u → w.cell? ((⟨g, 0, none⟩ : Addr).add j) = some u := fun j u hu => by
      have hj : j < 2 := by
        have := (List.getElem?_eq_some_iff.1 hu).1
        simpa using this
      rw [Go.WideShapes.add_plain, Nat.zero_add, rowAt_cell hg]
      rcases (show j = 0 ∨ j = 1 by omega) with rfl | rfl
      · exact hu
      · exact hu
    obtain ⟨v', w', hr, h2, h3, _, h5⟩ := run_append_own_at (P := Try.prog) w 0 72 ty 175 i _ 2 24 Try.underlying72 hi hz0 hz1 hz2 rfl (by decide) v n xs hown ⟨g, 0, none⟩ 1 1 [.string s, .int .i64 k] rfl hnews (by intro u hu; simp at hu; rcases hu with rfl | rfl <;> rfl) (by unfold maxLen; omega) (by omega) (Nat.zero_le _)
    exact ⟨v', w', hr, h2, h3, h5⟩
theorem mkL_snoc (nm : Nat → ByteArray) (pl : Nat → Int) (n : Nat) (s : ByteArray) (k : Int) : mkL (fun i => if i = n then s else nm i) (fun i => if i = n then k else pl i) (n + 1) = mkL nm pl n ++ [.string s, .int .i64 k] := by
  show mkL (fun i => if i = n then s else nm i) (fun i => if i = n then k else pl i) n ++ [.string (if n = n then s else nm n), .int .i64 (if n = n then k else pl n)] = _
  rw [mkL_congr (fun i => if i = n then s else nm i) nm (fun i => if i = n then k else pl i) pl n fun j hj => ⟨if_neg (by omega), if_neg (by omega)⟩, if_pos rfl, if_pos rfl]
theorem ky_inj {s t : ByteArray} (h : ky s = ky t) : s = t := by
  unfold ky at h
  injection h with h
  exact bytes_inj h
/-- A label more. -/
theorem RL.put {D : DataW Unit} {ln : Nat} {lm : Nat → ByteArray} {lt : Nat → Nat} (h : RL D ln lm lt) (s : ByteArray) (n : Nat) (hs : s.size ≤ maxLen) (hn : n ≤ 65536) (hno : Maps.has D (ky s) = false) :
    RL (D.put (ky s) (.lit (.int .i64 (n : Int)))) (ln + 1) (fun i => if i = ln then s else lm i) (fun i => if i = ln then n else lt i) := by
  have hm := h.im
  have hk : WideAt.IsKeyLit (ky s) := trivial
  refine ⟨fun i hi => ?_, fun t ht => ?_, fun i hi => ?_, fun i hi => ?_, ?_⟩
  · by_cases e : i = ln
    · subst e
      simp only [if_true]
      exact ⟨has_put_same hm hk _, atKey_put_same hm hk _ _⟩
    · simp only [e, if_false]
      obtain ⟨h1, h2⟩ := h.yes i (by omega)
      have hne : ky (lm i) ≠ ky s := fun e => by
        rw [e, hno] at h1
        cases h1
      exact ⟨(has_put_other hne _).trans h1, (atKey_put_other hne _ _).trans h2⟩
  · by_cases e : t = s
    · exact ⟨ln, by omega, by simp [e]⟩
    · have hne : ky t ≠ ky s := fun h => e (ky_inj h)
      rw [has_put_other hne] at ht
      obtain ⟨i, hi, he⟩ := h.no t ht
      refine ⟨i, by omega, ?_⟩
      show (if i = ln then s else lm i) = t
      rw [if_neg (by omega), he]
  · show (if i = ln then s else lm i).size ≤ maxLen
    split
    · exact hs
    · exact h.sz i (by omega)
  · show (if i = ln then n else lt i) ≤ 65536
    split
    · exact hn
    · exact h.tl i (by omega)
  · obtain ⟨es, rfl⟩ := hm
    exact ⟨_, rfl⟩
section
variable {w : World} {FP : Nat → Prop} {q : Nat} {S : Lb} {v1 v2 v3 : Value} {lm : Nat → ByteArray} {lt : Nat → Nat}
/-- Behind an append to its labels, and the store of them. -/
theorem RfC.labd (h : RfC w FP q S v1 v2 v3 lm lt) {w1 : World} {v' : Value} {s : ByteArray} (ho : w1.ownsRow 0 175 2 v' (S.cnt + 1) (mkL lm (fun i => (lt i : Int)) S.cnt ++ [.string s, .int .i64 (S.n : Int)])) (hg : w.grownBy w1 v2.ownBlock) (hl : v'.ownBlock = v2.ownBlock ∨ v'.ownBlock = some w.heap.size) (hs : s.size ≤ maxLen) (hno : Maps.has S.D (ky s) = false) :
    RfP w FP q (S.lab s) (w1.setCell ⟨q, 2, none⟩ v') := by
  have hq1 : w1.heap[q]? = some (.cells (cellsR S.at0 v1 v2 v3 S.err) 74 (0, 0)) := (hg.block q (h.fl q h.fp) (fun e => h.p2 e.symm rfl)).trans h.row
  have hne : ∀ k, k ≠ q → (w1.setCell ⟨q, 2, none⟩ v').heap[k]? = w1.heap[k]? := fun k hk => Below.heap_setCell _ _ _ _ hk
  have hown : ∀ g, v'.ownBlock = some g → g ≠ q := fun g hg' => by
    obtain ⟨cur, hc⟩ := own_heap ho hg'
    exact ne_of_obj hc hq1 (ne_ty (by decide))
  have hsz : (w1.setCell ⟨q, 2, none⟩ v').heap.size = w1.heap.size := by simp
  refine ⟨fun k => FP k ∨ v'.ownBlock = some k, v1, v', v3, _, _, ⟨setQ_heap hq1, ?_, ?_, ?_, h.rel.put s S.n hs h.nl hno, .inl h.fp, fun g hg => .inl (h.f1 g hg), fun g hg => .inr hg, fun g hg => .inl (h.f3 g hg), fun g hg hg3 => ?_, fun k hf => ?_, h.nl⟩, fun k hf => ?_, fun k hf => .inl hf, ?_⟩
  · exact ownsRow_kept h.ins fun g hg' => (hne g (h.p1 hg')).trans (hg.block g (h.fl g (h.f1 g hg')) (fun e => h.o12 hg' e.symm rfl))
  · show (w1.setCell ⟨q, 2, none⟩ v').ownsRow 0 175 2 v' (S.cnt + 1) _
    have e : mkL (fun i => if i = S.cnt then s else lm i) (fun i => ((if i = S.cnt then S.n else lt i : Nat) : Int)) (S.cnt + 1) = mkL lm (fun i => (lt i : Int)) S.cnt ++ [.string s, .int .i64 (S.n : Int)] := by
      rw [mkL_congr _ (fun i => if i = S.cnt then s else lm i) _ (fun i => if i = S.cnt then (S.n : Int) else (lt i : Int)) (S.cnt + 1) fun j hj => ⟨rfl, by split <;> rfl⟩]
      exact mkL_snoc lm (fun i => (lt i : Int)) S.cnt s (S.n : Int)
    show (w1.setCell ⟨q, 2, none⟩ v').ownsRow 0 175 2 v' (S.cnt + 1) (mkL (fun i => if i = S.cnt then s else lm i) (fun i => ((if i = S.cnt then S.n else lt i : Nat) : Int)) (S.cnt + 1))
    rw [e]
    exact ownsRow_kept ho fun g hg' => hne g (hown g hg')
  · exact ownsRow_kept h.jmp fun g hg' => (hne g (h.p3 hg')).trans (hg.block g (h.fl g (h.f3 g hg')) (fun e => h.n23 g e.symm hg'))
  · rcases hl with hl | hl
    · exact h.n23 g (hl.symm.trans hg) hg3
    · rw [hl] at hg
      injection hg with hg
      have := h.fl g (h.f3 g hg3)
      omega
  · rw [hsz]
    rcases hf with hf | hf
    · exact Nat.lt_of_lt_of_le (h.fl k hf) hg.size
    · obtain ⟨cur, hc⟩ := own_heap ho hf
      exact (Array.getElem?_eq_some_iff.1 hc).1
  · rcases hf with hf | hf
    · exact .inl hf
    · rcases hl with hl | hl
      · exact .inl (h.f2 k (hl.symm.trans hf))
      · rw [hl] at hf
        injection hf with hf
        exact .inr (Nat.le_of_eq hf)
  · exact (Kp.of_grown hg (fun b hb => h.f2 b hb)).trans (kp_set (FP := FP) w1 q 2 v' h.fp) fun k hf => .inl hf
/-- Behind an append to its jumps, and the store of them: as a state with a jump more. -/
def Lb.jm (S : Lb) (s : ByteArray) : Lb := { S with jn := S.jn + 1, nm := fun k => if k = S.jn then s else S.nm k, pl := fun k => if k = S.jn then (S.n : Int) else S.pl k }
theorem RfC.jumped (h : RfC w FP q S v1 v2 v3 lm lt) {w1 : World} {v' : Value} {s : ByteArray} (ho : w1.ownsRow 0 175 2 v' (S.jn + 1) (mkL S.nm S.pl S.jn ++ [.string s, .int .i64 (S.n : Int)])) (hg : w.grownBy w1 v3.ownBlock) (hl : v'.ownBlock = v3.ownBlock ∨ v'.ownBlock = some w.heap.size) :
    RfC (w1.setCell ⟨q, 3, none⟩ v') (fun k => FP k ∨ v'.ownBlock = some k) q (S.jm s) v1 v2 v' lm lt ∧ (∀ k, v'.ownBlock = some k → FP k ∨ w.heap.size ≤ k) ∧ Kp FP w (w1.setCell ⟨q, 3, none⟩ v') := by
  have hq1 : w1.heap[q]? = some (.cells (cellsR S.at0 v1 v2 v3 S.err) 74 (0, 0)) := (hg.block q (h.fl q h.fp) (fun e => h.p3 e.symm rfl)).trans h.row
  have hne : ∀ k, k ≠ q → (w1.setCell ⟨q, 3, none⟩ v').heap[k]? = w1.heap[k]? := fun k hk => Below.heap_setCell _ _ _ _ hk
  have hown : ∀ g, v'.ownBlock = some g → g ≠ q := fun g hg' => by
    obtain ⟨cur, hc⟩ := own_heap ho hg'
    exact ne_of_obj hc hq1 (ne_ty (by decide))
  have hsz : (w1.setCell ⟨q, 3, none⟩ v').heap.size = w1.heap.size := by simp
  refine ⟨⟨setQ_heap hq1, ?_, ?_, ?_, h.rel, .inl h.fp, fun g hg => .inl (h.f1 g hg), fun g hg => .inl (h.f2 g hg), fun g hg => .inr hg, fun g hg2 hg => ?_, fun k hf => ?_, h.nl⟩, fun k hf => ?_, ?_⟩
  · exact ownsRow_kept h.ins fun g hg' => (hne g (h.p1 hg')).trans (hg.block g (h.fl g (h.f1 g hg')) (fun e => h.o13 hg' e.symm rfl))
  · exact ownsRow_kept h.lab fun g hg' => (hne g (h.p2 hg')).trans (hg.block g (h.fl g (h.f2 g hg')) (fun e => h.n23 g hg' e.symm))
  · show (w1.setCell ⟨q, 3, none⟩ v').ownsRow 0 175 2 v' (S.jn + 1) (mkL (fun k => if k = S.jn then s else S.nm k) (fun k => if k = S.jn then (S.n : Int) else S.pl k) (S.jn + 1))
    rw [mkL_snoc]
    exact ownsRow_kept ho fun g hg' => hne g (hown g hg')
  · rcases hl with hl | hl
    · exact h.n23 g hg2 (hl.symm.trans hg)
    · rw [hl] at hg
      injection hg with hg
      have := h.fl g (h.f2 g hg2)
      omega
  · rw [hsz]
    rcases hf with hf | hf
    · exact Nat.lt_of_lt_of_le (h.fl k hf) hg.size
    · obtain ⟨cur, hc⟩ := own_heap ho hf
      exact (Array.getElem?_eq_some_iff.1 hc).1
  · rcases hl with hl | hl
    · exact .inl (h.f3 k (hl.symm.trans hf))
    · rw [hl] at hf
      injection hf with hf
      exact .inr (Nat.le_of_eq hf)
  · exact (Kp.of_grown hg (fun b hb => h.f3 b hb)).trans (kp_set (FP := FP) w1 q 3 v' h.fp) fun k hf => .inl hf
end
def arI (x : In) : Array Value := #[.int .i64 x.op, .int .i64 x.d, .int .i64 x.n, .int .i64 x.m, .int .i64 x.a, .int .i64 x.c, .int .i64 x.i]
set_option maxRecDepth 100000 in
set_option maxHeartbeats 8000000 in
theorem rlabel_n (w : World) (FP : Nat → Prop) (q : Nat) (S : Lb) (v1 v2 v3 : Value) (lm : Nat → ByteArray) (lt : Nat → Nat) (s : ByteArray) (t : Nat) (h : RfC w FP q S v1 v2 v3 lm lt) (hcn : S.cnt ≤ 1000000) (hh : Maps.has S.D (ky s) = true) (ha : S.D.atKey (ky s) (.lit (.int .i64 0)) = .lit (.int .i64 (t : Int))) :
    Calls Try.prog 35 #[.pointer (some ⟨q, 0, none⟩), .string s] w fun e w' => e = .returned (.tuple #[]) ∧ RfP w FP q (S.fail 24) w' := by
  have H := Lib.hid h
  have HF := Lib.hid (find_y w FP q S v1 v2 v3 lm lt s t h hcn hh ha)
  clear h hh ha
  go_enter Try.func35, Try.ntmps35
  go_wp2_with (first | (go_at_call 118; refine HF.out.mono ?_; rintro e w2 ⟨rfl, rfl⟩) | (go_at_call 116; refine (rfail_c _ FP q S v1 v2 v3 lm lt 24 H.out).mono ?_; rintro e w2 ⟨rfl, hc2, hk2⟩; have HC2 := Lib.hid hc2; have HK2 := Lib.hid hk2; clear hc2 hk2))
  refine bodyPost_ret (results_none rfl _ _ _) rfl ⟨rfl, RfP.of HC2.out HK2.out⟩
set_option maxRecDepth 100000 in
set_option maxHeartbeats 8000000 in
theorem rlabel_y (w : World) (FP : Nat → Prop) (q : Nat) (S : Lb) (v1 v2 v3 : Value) (lm : Nat → ByteArray) (lt : Nat → Nat) (s : ByteArray) (hs : s.size ≤ maxLen) (h : RfC w FP q S v1 v2 v3 lm lt) (hcn : S.cnt ≤ 1000000) (hno : Maps.has S.D (ky s) = false) :
    Calls Try.prog 35 #[.pointer (some ⟨q, 0, none⟩), .string s] w fun e w' => e = .returned (.tuple #[]) ∧ RfP w FP q (S.lab s) w' := by
  have H := Lib.hid h
  have HF := Lib.hid (find_n w FP q S v1 v2 v3 lm lt s h hcn hno)
  have HNO := Lib.hid hno
  have hnl := h.nl
  obtain ⟨a1, cp1, rfl, _⟩ := own_form h.ins
  obtain ⟨a2, cp2, rfl, _⟩ := own_form h.lab
  clear h hno
  go_enter Try.func35, Try.ntmps35
  go_upto_region 2 with (go_at_call 118; refine HF.out.mono ?_; rintro e w2 ⟨rfl, rfl⟩)
  have hbd : Below w.heap.size w w.drew := (Below.refl _ _).drew
  have HKd : Hid (Kp FP w w.drew) := Lib.hid (Kp.of_below hbd)
  have hV := H.out.past hbd
  clear hbd
  have k1 := rowAt_cell hV.rw 1
  have k2 := rowAt_cell hV.rw 2
  simp only [cellsR] at k1 k2
  refine wp_region_held_drew (S := fun w' => w'.cell? ⟨q, 1, none⟩ = some (.slice a1 S.n cp1)) (by kernel_rfl) k1 (fun hHeld => ?_)
  generalize w.drew = V at HKd hV k1 k2 hHeld ⊢
  have hA := hV.past ((Below.refl V.heap.size V).alloc (Nat.le_refl _) (.cells #[.string s, .int .i64 (S.n : Int)] 175))
  have kA1 := rowAt_cell hA.rw 1
  have kA2 := rowAt_cell hA.rw 2
  obtain ⟨v', W3, hr, ho3, hg3, hl3⟩ := run_append2 (V.alloc (.cells #[.string s, .int .i64 (S.n : Int)] 175)) 72 (.slice a2 S.cnt cp2) S.cnt _ hA.lab V.heap.size s (S.n : Int) (rowAt_new _ _ _) (by omega)
  obtain ⟨a3, cp3, rfl, _⟩ := own_form ho3
  have HP : Hid (RfP w FP q (S.lab s) (W3.setCell ⟨q, 2, none⟩ (.slice a3 (S.cnt + 1) cp3))) := Lib.hid (((hA.labd ho3 hg3 hl3 hs HNO.out).after (FP := FP) (Kp.of_below ((Below.refl V.heap.size V).alloc (Nat.le_refl _) _))).after HKd.out)
  have hrow3 : rowAt W3 q = some (cellsR S.at0 (.slice a1 S.n cp1) (.slice a2 S.cnt cp2) v3 S.err) := rowAt_of ((hg3.block q (hA.fl q hA.fp) (fun e => hA.p2 e.symm rfl)).trans hA.row)
  have k31 := rowAt_cell hrow3 1
  have k32 := rowAt_cell hrow3 2
  have f32 := rowAt_frz hrow3 2
  have k41 : (W3.setCell ⟨q, 2, none⟩ (.slice a3 (S.cnt + 1) cp3)).cell? ⟨q, 1, none⟩ = some (.slice a1 S.n cp1) := by rw [rowAt_cell (rowAt_set hrow3 2 _)]; rfl
  simp only [cellsR] at kA1 kA2 k31 k32
  clear hA hV ho3 hg3 hl3 hrow3
  refine wpAnyH_take (i := 0) (oi := { dst := some 10, op := Op.move (Operand.tmp 0), type := 71, pos := "ref.go:79", after := #[], guard := none }) (v := ?_) rfl (by kernel_rfl) (by kernel_rfl) (by kernel_rfl) (fun _ _ _ h => h) (Or.inl ⟨by rfl, ?_⟩) (by assumption) ?_
  rotate_left
  · (intro w0 hSw; (try dsimp only at hSw); go_split_ands; go_simp; with_reducible rfl)
  try simp only [Act.put, List.setIfInBounds_toArray, List.set_cons_zero, List.set_cons_succ]
  refine wpAnyH_take (i := 1) (oi := { dst := some 11, op := Op.move (Operand.tmp 0), type := 71, pos := "ref.go:79", after := #[], guard := none }) (v := ?_) rfl (by kernel_rfl) (by kernel_rfl) (by kernel_rfl) (fun _ _ _ h => h) (Or.inl ⟨by rfl, ?_⟩) (by assumption) ?_
  rotate_left
  · (intro w0 hSw; (try dsimp only at hSw); go_split_ands; go_simp; with_reducible rfl)
  try simp only [Act.put, List.setIfInBounds_toArray, List.set_cons_zero, List.set_cons_succ]
  refine wpAnyH_take (i := 2) (oi := { dst := some 12, op := Op.nilCheck (Operand.tmp 11), type := 0, pos := "ref.go:79", after := #[{ on := 1, ground := Ground.data }], guard := none }) (v := ?_) rfl (by kernel_rfl) (by kernel_rfl) (by kernel_rfl) (fun _ _ _ h => h) (Or.inl ⟨by rfl, ?_⟩) (by assumption) ?_
  rotate_left
  · (intro w0 hSw; (try dsimp only at hSw); go_split_ands; go_simp; with_reducible rfl)
  try simp only [Act.put, List.setIfInBounds_toArray, List.set_cons_zero, List.set_cons_succ]
  refine wpAnyH_take (i := 3) (oi := { dst := some 13, op := Op.fieldAddr 74 (Operand.tmp 12) 2, type := 0, pos := "ref.go:79", after := #[{ on := 2, ground := Ground.data }], guard := none }) (v := ?_) rfl (by kernel_rfl) (by kernel_rfl) (by kernel_rfl) (fun _ _ _ h => h) (Or.inl ⟨by rfl, ?_⟩) (by assumption) ?_
  rotate_left
  · (intro w0 hSw; (try dsimp only at hSw); go_split_ands; go_simp; with_reducible rfl)
  try simp only [Act.put, List.setIfInBounds_toArray, List.set_cons_zero, List.set_cons_succ]
  refine wpAnyH_take (i := 5) (oi := { dst := some 15, op := Op.move (Operand.tmp 1), type := 9, pos := "ref.go:79", after := #[], guard := none }) (v := ?_) rfl (by kernel_rfl) (by kernel_rfl) (by kernel_rfl) (fun _ _ _ h => h) (Or.inl ⟨by rfl, ?_⟩) (by assumption) ?_
  rotate_left
  · (intro w0 hSw; (try dsimp only at hSw); go_split_ands; go_simp; with_reducible rfl)
  try simp only [Act.put, List.setIfInBounds_toArray, List.set_cons_zero, List.set_cons_succ]
  refine wpAnyH_take (i := 6) (oi := { dst := some 16, op := Op.move (Operand.tmp 0), type := 71, pos := "ref.go:79", after := #[], guard := none }) (v := ?_) rfl (by kernel_rfl) (by kernel_rfl) (by kernel_rfl) (fun _ _ _ h => h) (Or.inl ⟨by rfl, ?_⟩) (by assumption) ?_
  rotate_left
  · (intro w0 hSw; (try dsimp only at hSw); go_split_ands; go_simp; with_reducible rfl)
  try simp only [Act.put, List.setIfInBounds_toArray, List.set_cons_zero, List.set_cons_succ]
  refine wpAnyH_take (i := 7) (oi := { dst := some 17, op := Op.nilCheck (Operand.tmp 16), type := 0, pos := "ref.go:79", after := #[{ on := 6, ground := Ground.data }], guard := none }) (v := ?_) rfl (by kernel_rfl) (by kernel_rfl) (by kernel_rfl) (fun _ _ _ h => h) (Or.inl ⟨by rfl, ?_⟩) (by assumption) ?_
  rotate_left
  · (intro w0 hSw; (try dsimp only at hSw); go_split_ands; go_simp; with_reducible rfl)
  try simp only [Act.put, List.setIfInBounds_toArray, List.set_cons_zero, List.set_cons_succ]
  refine wpAnyH_take (i := 8) (oi := { dst := some 18, op := Op.fieldAddr 74 (Operand.tmp 17) 1, type := 0, pos := "ref.go:79", after := #[{ on := 7, ground := Ground.data }], guard := none }) (v := ?_) rfl (by kernel_rfl) (by kernel_rfl) (by kernel_rfl) (fun _ _ _ h => h) (Or.inl ⟨by rfl, ?_⟩) (by assumption) ?_
  rotate_left
  · (intro w0 hSw; (try dsimp only at hSw); go_split_ands; go_simp; with_reducible rfl)
  try simp only [Act.put, List.setIfInBounds_toArray, List.set_cons_zero, List.set_cons_succ]
  refine wpAnyH_take (i := 9) (oi := { dst := some 19, op := Op.load 63 (Operand.tmp 18), type := 63, pos := "ref.go:79", after := #[{ on := 8, ground := Ground.data }], guard := none }) (v := ?_) rfl (by kernel_rfl) (by kernel_rfl) (by kernel_rfl) (fun _ _ _ h => h) (Or.inl ⟨by rfl, ?_⟩) (by assumption) ?_
  rotate_left
  · (intro w0 hSw; (try dsimp only at hSw); go_split_ands; go_simp; with_reducible rfl)
  try simp only [Act.put, List.setIfInBounds_toArray, List.set_cons_zero, List.set_cons_succ]
  refine wpAnyH_take (i := 10) (oi := { dst := some 20, op := Op.call { callee := Callee.builtin Builtin.len, args := #[Operand.tmp 19], argTypes := #[63] }, type := 3, pos := "ref.go:79", after := #[{ on := 9, ground := Ground.data }], guard := none }) (v := ?_) rfl (by kernel_rfl) (by kernel_rfl) (by kernel_rfl) (fun _ _ _ h => h) (Or.inl ⟨by rfl, ?_⟩) (by assumption) ?_
  rotate_left
  · (intro w0 hSw; (try dsimp only at hSw); go_split_ands; go_simp; with_reducible rfl)
  try simp only [Act.put, List.setIfInBounds_toArray, List.set_cons_zero, List.set_cons_succ]
  refine wpAnyH_take (i := 11) (oi := { dst := some 21, op := Op.build 175 #[(0, Operand.tmp 15), (1, Operand.tmp 20)], type := 175, pos := "ref.go:79", after := #[{ on := 5, ground := Ground.data }, { on := 10, ground := Ground.data }], guard := none }) (v := ?_) rfl (by kernel_rfl) (by kernel_rfl) (by kernel_rfl) (fun _ _ _ h => h) (Or.inl ⟨by rfl, ?_⟩) (by assumption) ?_
  rotate_left
  · (intro w0 hSw; (try dsimp only at hSw); go_split_ands; go_simp; with_reducible rfl)
  try simp only [Act.put, List.setIfInBounds_toArray, List.set_cons_zero, List.set_cons_succ]
  refine wpAnyH_ready (rs := [4, 12]) (by kernel_rfl) (by simp) ?_
  refine AllReadyH.cons (o := { dst := some 14, op := Op.load 72 (Operand.tmp 13), type := 72, pos := "ref.go:79", after := #[{ on := 3, ground := Ground.data }], guard := none }) rfl (fun K hK => ?_) (AllReadyH.cons (o := { dst := some 22, op := Op.buildSlice 72 1 #[(0, Operand.tmp 21)], type := 72, pos := "ref.go:79", after := #[{ on := 11, ground := Ground.data }], guard := none }) rfl (fun K hK => ?_) AllReadyH.nil)
  · go_simp
    refine hK.out _ _ k1 (fun hHeld => ?_)
    clear hK K
    try simp only [Act.put, List.setIfInBounds_toArray, List.set_cons_zero, List.set_cons_succ]
    refine wpAnyH_ready (rs := [12]) (by kernel_rfl) (by simp) ?_
    refine AllReadyH.cons (o := { dst := some 22, op := Op.buildSlice 72 1 #[(0, Operand.tmp 21)], type := 72, pos := "ref.go:79", after := #[{ on := 11, ground := Ground.data }], guard := none }) rfl (fun K hK => ?_) AllReadyH.nil
    go_simp
    refine hK.out _ _ kA1 (fun hHeld => ?_)
    clear hK K
    try simp only [Act.put, List.setIfInBounds_toArray, List.set_cons_zero, List.set_cons_succ]
    refine wpAnyH_ready (rs := [13]) (by kernel_rfl) (by simp) ?_
    refine AllReadyH.cons (o := { dst := some 23, op := Op.call { callee := Callee.builtin Builtin.append, args := #[Operand.tmp 14, Operand.tmp 22], argTypes := #[72, 72] }, type := 72, pos := "ref.go:79", after := #[{ on := 4, ground := Ground.data }, { on := 12, ground := Ground.data }], guard := none }) rfl (fun K hK => ?_) AllReadyH.nil
    refine step_append_run rfl _ _ _ rfl _ _ _ _ rfl rfl hr ?_
    refine hK.out _ _ k31 (fun hHeld => ?_)
    clear hK K
    try simp only [Act.put, List.setIfInBounds_toArray, List.set_cons_zero, List.set_cons_succ]
    refine wpAnyH_take (i := 14) (oi := { dst := some 24, op := Op.nilCheck (Operand.tmp 10), type := 0, pos := "ref.go:79", after := #[{ on := 0, ground := Ground.data }, { on := 0, ground := Ground.phase }, { on := 1, ground := Ground.phase }, { on := 2, ground := Ground.phase }, { on := 3, ground := Ground.phase }, { on := 4, ground := Ground.phase }, { on := 5, ground := Ground.phase }, { on := 6, ground := Ground.phase }, { on := 7, ground := Ground.phase }, { on := 8, ground := Ground.phase }, { on := 9, ground := Ground.phase }, { on := 10, ground := Ground.phase }, { on := 11, ground := Ground.phase }, { on := 12, ground := Ground.phase }, { on := 13, ground := Ground.phase }], guard := none }) (v := ?_) rfl (by kernel_rfl) (by kernel_rfl) (by kernel_rfl) (fun _ _ _ h => h) (Or.inl ⟨by rfl, ?_⟩) (by assumption) ?_
    rotate_left
    · (intro w0 hSw; (try dsimp only at hSw); go_split_ands; go_simp; with_reducible rfl)
    try simp only [Act.put, List.setIfInBounds_toArray, List.set_cons_zero, List.set_cons_succ]
    refine wpAnyH_take (i := 15) (oi := { dst := some 25, op := Op.fieldAddr 74 (Operand.tmp 24) 2, type := 0, pos := "ref.go:79", after := #[{ on := 14, ground := Ground.data }, { on := 0, ground := Ground.phase }, { on := 1, ground := Ground.phase }, { on := 2, ground := Ground.phase }, { on := 3, ground := Ground.phase }, { on := 4, ground := Ground.phase }, { on := 5, ground := Ground.phase }, { on := 6, ground := Ground.phase }, { on := 7, ground := Ground.phase }, { on := 8, ground := Ground.phase }, { on := 9, ground := Ground.phase }, { on := 10, ground := Ground.phase }, { on := 11, ground := Ground.phase }, { on := 12, ground := Ground.phase }, { on := 13, ground := Ground.phase }], guard := none }) (v := ?_) rfl (by kernel_rfl) (by kernel_rfl) (by kernel_rfl) (fun _ _ _ h => h) (Or.inl ⟨by rfl, ?_⟩) (by assumption) ?_
    rotate_left
    · (intro w0 hSw; (try dsimp only at hSw); go_split_ands; go_simp; with_reducible rfl)
    try simp only [Act.put, List.setIfInBounds_toArray, List.set_cons_zero, List.set_cons_succ]
    refine wpAnyH_ready (rs := [16]) (by kernel_rfl) (by simp) ?_
    refine AllReadyH.cons (o := { dst := none, op := Op.store 72 (Operand.tmp 25) (Operand.tmp 23), type := 0, pos := "ref.go:79", after := #[{ on := 15, ground := Ground.data }, { on := 13, ground := Ground.data }, { on := 13, ground := Ground.chain }, { on := 0, ground := Ground.phase }, { on := 1, ground := Ground.phase }, { on := 2, ground := Ground.phase }, { on := 3, ground := Ground.phase }, { on := 4, ground := Ground.phase }, { on := 5, ground := Ground.phase }, { on := 6, ground := Ground.phase }, { on := 7, ground := Ground.phase }, { on := 8, ground := Ground.phase }, { on := 9, ground := Ground.phase }, { on := 10, ground := Ground.phase }, { on := 11, ground := Ground.phase }, { on := 12, ground := Ground.phase }, { on := 13, ground := Ground.phase }], guard := none }) rfl (fun K hK => ?_) AllReadyH.nil
    go_simp
    refine hK.out _ _ k41 (fun hHeld => ?_)
    clear hK K
    try simp only [Act.put, List.setIfInBounds_toArray, List.set_cons_zero, List.set_cons_succ]
    refine wpAnyH_done (by kernel_rfl) ?_ _
    clear hHeld
    go_end0
    exact ⟨rfl, HP.out⟩
  · go_simp
    refine hK.out _ _ kA1 (fun hHeld => ?_)
    clear hK K
    try simp only [Act.put, List.setIfInBounds_toArray, List.set_cons_zero, List.set_cons_succ]
    refine wpAnyH_ready (rs := [4]) (by kernel_rfl) (by simp) ?_
    refine AllReadyH.cons (o := { dst := some 14, op := Op.load 72 (Operand.tmp 13), type := 72, pos := "ref.go:79", after := #[{ on := 3, ground := Ground.data }], guard := none }) rfl (fun K hK => ?_) AllReadyH.nil
    go_simp
    refine hK.out _ _ kA1 (fun hHeld => ?_)
    clear hK K
    try simp only [Act.put, List.setIfInBounds_toArray, List.set_cons_zero, List.set_cons_succ]
    refine wpAnyH_ready (rs := [13]) (by kernel_rfl) (by simp) ?_
    refine AllReadyH.cons (o := { dst := some 23, op := Op.call { callee := Callee.builtin Builtin.append, args := #[Operand.tmp 14, Operand.tmp 22], argTypes := #[72, 72] }, type := 72, pos := "ref.go:79", after := #[{ on := 4, ground := Ground.data }, { on := 12, ground := Ground.data }], guard := none }) rfl (fun K hK => ?_) AllReadyH.nil
    refine step_append_run rfl _ _ _ rfl _ _ _ _ rfl rfl hr ?_
    refine hK.out _ _ k31 (fun hHeld => ?_)
    clear hK K
    try simp only [Act.put, List.setIfInBounds_toArray, List.set_cons_zero, List.set_cons_succ]
    refine wpAnyH_take (i := 14) (oi := { dst := some 24, op := Op.nilCheck (Operand.tmp 10), type := 0, pos := "ref.go:79", after := #[{ on := 0, ground := Ground.data }, { on := 0, ground := Ground.phase }, { on := 1, ground := Ground.phase }, { on := 2, ground := Ground.phase }, { on := 3, ground := Ground.phase }, { on := 4, ground := Ground.phase }, { on := 5, ground := Ground.phase }, { on := 6, ground := Ground.phase }, { on := 7, ground := Ground.phase }, { on := 8, ground := Ground.phase }, { on := 9, ground := Ground.phase }, { on := 10, ground := Ground.phase }, { on := 11, ground := Ground.phase }, { on := 12, ground := Ground.phase }, { on := 13, ground := Ground.phase }], guard := none }) (v := ?_) rfl (by kernel_rfl) (by kernel_rfl) (by kernel_rfl) (fun _ _ _ h => h) (Or.inl ⟨by rfl, ?_⟩) (by assumption) ?_
    rotate_left
    · (intro w0 hSw; (try dsimp only at hSw); go_split_ands; go_simp; with_reducible rfl)
    try simp only [Act.put, List.setIfInBounds_toArray, List.set_cons_zero, List.set_cons_succ]
    refine wpAnyH_take (i := 15) (oi := { dst := some 25, op := Op.fieldAddr 74 (Operand.tmp 24) 2, type := 0, pos := "ref.go:79", after := #[{ on := 14, ground := Ground.data }, { on := 0, ground := Ground.phase }, { on := 1, ground := Ground.phase }, { on := 2, ground := Ground.phase }, { on := 3, ground := Ground.phase }, { on := 4, ground := Ground.phase }, { on := 5, ground := Ground.phase }, { on := 6, ground := Ground.phase }, { on := 7, ground := Ground.phase }, { on := 8, ground := Ground.phase }, { on := 9, ground := Ground.phase }, { on := 10, ground := Ground.phase }, { on := 11, ground := Ground.phase }, { on := 12, ground := Ground.phase }, { on := 13, ground := Ground.phase }], guard := none }) (v := ?_) rfl (by kernel_rfl) (by kernel_rfl) (by kernel_rfl) (fun _ _ _ h => h) (Or.inl ⟨by rfl, ?_⟩) (by assumption) ?_
    rotate_left
    · (intro w0 hSw; (try dsimp only at hSw); go_split_ands; go_simp; with_reducible rfl)
    try simp only [Act.put, List.setIfInBounds_toArray, List.set_cons_zero, List.set_cons_succ]
    refine wpAnyH_ready (rs := [16]) (by kernel_rfl) (by simp) ?_
    refine AllReadyH.cons (o := { dst := none, op := Op.store 72 (Operand.tmp 25) (Operand.tmp 23), type := 0, pos := "ref.go:79", after := #[{ on := 15, ground := Ground.data }, { on := 13, ground := Ground.data }, { on := 13, ground := Ground.chain }, { on := 0, ground := Ground.phase }, { on := 1, ground := Ground.phase }, { on := 2, ground := Ground.phase }, { on := 3, ground := Ground.phase }, { on := 4, ground := Ground.phase }, { on := 5, ground := Ground.phase }, { on := 6, ground := Ground.phase }, { on := 7, ground := Ground.phase }, { on := 8, ground := Ground.phase }, { on := 9, ground := Ground.phase }, { on := 10, ground := Ground.phase }, { on := 11, ground := Ground.phase }, { on := 12, ground := Ground.phase }, { on := 13, ground := Ground.phase }], guard := none }) rfl (fun K hK => ?_) AllReadyH.nil
    go_simp
    refine hK.out _ _ k41 (fun hHeld => ?_)
    clear hK K
    try simp only [Act.put, List.setIfInBounds_toArray, List.set_cons_zero, List.set_cons_succ]
    refine wpAnyH_done (by kernel_rfl) ?_ _
    clear hHeld
    go_end0
    exact ⟨rfl, HP.out⟩

theorem jumpB_ops {o : Int} (h : jumpB o = true) : o = 20 ∨ o = 21 ∨ o = 22 ∨ o = 23 ∨ o = 24 := by
  unfold jumpB at h
  simp only [Bool.or_eq_true, beq_iff_eq] at h
  omega
/-- The box of the jump, its number struck. -/
structure JW (w W : World) (x : In) : Prop where
  row : rowAt W w.heap.size = some (arI (zIn x))
  bl : Below w.heap.size w W
  sz : w.heap.size < W.heap.size
set_option maxRecDepth 100000 in
set_option maxHeartbeats 8000000 in
theorem rjump_bad (w : World) (FP : Nat → Prop) (q : Nat) (S : Lb) (v1 v2 v3 : Value) (lm : Nat → ByteArray) (lt : Nat → Nat) (x : In) (s : ByteArray) (h : RfC w FP q S v1 v2 v3 lm lt) (hj : jumpB x.op = false ∨ (zIn x).e = 1) :
    Calls Try.prog 36 #[.pointer (some ⟨q, 0, none⟩), x.v, .string s] w fun e w' => e = .returned (.tuple #[]) ∧ RfP w FP q (S.fail 1) w' := by
  have H := Lib.hid h
  clear h
  show Calls Try.prog 36 #[.pointer (some ⟨q, 0, none⟩), .agg #[.int .i64 x.op, .int .i64 x.d, .int .i64 x.n, .int .i64 x.m, .int .i64 x.a, .int .i64 x.c, .int .i64 x.i], .string s] w _
  by_cases hb : jumpB x.op = true
  · have hx : (zIn x).e = 1 := by
      rcases hj with h | h
      · rw [hb] at h; cases h
      · exact h
    have ho := jumpB_ops hb
    have hck := fun V => (zIn x).rcheck V
    rw [hx] at hck
    have HCK : Hid (∀ V, Calls Try.prog 83 #[.agg #[.int .i64 x.op, .int .i64 x.d, .int .i64 x.n, .int .i64 x.m, .int .i64 x.a, .int .i64 x.c, .int .i64 0]] V fun e w' => e = .returned (.int .i64 1) ∧ Below V.heap.size V w') := Lib.hid hck
    have HB0 : Hid (Below w.heap.size w ((w.alloc (.cells #[.int .i64 x.op, .int .i64 x.d, .int .i64 x.n, .int .i64 x.m, .int .i64 x.a, .int .i64 x.c, .int .i64 0] 29)))) := Lib.hid ((Below.refl _ _).alloc (Nat.le_refl _) _)
    clear hck hj hb hx
    obtain ⟨op, d, n, m, a, c, i⟩ := x
    rcases (show op = 20 ∨ op = 21 ∨ op = 22 ∨ op = 23 ∨ op = 24 from ho) with rfl | rfl | rfl | rfl | rfl
    all_goals
      clear ho
      go_enter Try.func36, Try.ntmps36
      go_wp2_with (first | (go_at_call 83; refine (HCK.out _).mono ?_; rintro e w3 ⟨rfl, hb3⟩; have HB3 := Lib.hid (below_step HB0.out hb3 rfl rfl rfl rfl); clear hb3) | (go_at_call 116; refine (rfail_c _ FP q S v1 v2 v3 lm lt 1 (H.out.past HB3.out)).mono ?_; rintro e w4 ⟨rfl, hc4, hk4⟩; have HC4 := Lib.hid hc4; have HK4 := Lib.hid hk4; clear hc4 hk4))
      refine bodyPost_ret (results_none rfl _ _ _) rfl ⟨rfl, RfP.of HC4.out ((Kp.of_below HB3.out).trans HK4.out fun k hf => .inl hf)⟩
  · obtain ⟨op, d, n, m, a, c, i⟩ := x
    have hb' : jumpB op = false := by simpa using hb
    clear hb hj
    unfold jumpB at hb'
    simp only [Bool.or_eq_false_iff] at hb'
    obtain ⟨⟨⟨⟨e20, e21⟩, e22⟩, e23⟩, e24⟩ := hb'
    have HB0 : Hid (Below w.heap.size w ((w.alloc (.cells #[.int .i64 op, .int .i64 d, .int .i64 n, .int .i64 m, .int .i64 a, .int .i64 c, .int .i64 0] 29)))) := Lib.hid ((Below.refl _ _).alloc (Nat.le_refl _) _)
    go_enter Try.func36, Try.ntmps36
    go_wp2_with (go_at_call 116; refine (rfail_c _ FP q S v1 v2 v3 lm lt 1 (H.out.past HB0.out)).mono ?_; rintro e w4 ⟨rfl, hc4, hk4⟩; have HC4 := Lib.hid hc4; have HK4 := Lib.hid hk4; clear hc4 hk4)
    refine bodyPost_ret (results_none rfl _ _ _) rfl ⟨rfl, RfP.of HC4.out ((Kp.of_below HB0.out).trans HK4.out fun k hf => .inl hf)⟩

end Go.Proofs.Ytnbpgoacooddjaa.Lab
