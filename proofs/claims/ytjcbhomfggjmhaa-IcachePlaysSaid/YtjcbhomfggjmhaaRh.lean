import Derived.Test.YtjcbhomfggjmhaaRg
import Derived.Test.YtjcbhomfggjmhaaNb
namespace Go.Proofs.Ytjcbhomfggjmhaa.Mm
open Go.ChangeShapes Go.WideShapes Go.ChangeAt Go.RowKit Go.Maps
set_option linter.unusedVariables false
/-! ### Cells by core and place -/
theorem lk_nil (c : Int) (a : Nat) : lk [] c a = none := rfl
theorem lk_cons (y : Cl) (l : List Cl) (c : Int) (a : Nat) : lk (y :: l) c a = if y.hit c a = true then some y.w else lk l c a := by
  unfold lk
  rw [List.findIdx?_cons]
  by_cases h : y.hit c a = true
  · rw [h]; rfl
  · have h : y.hit c a = false := by simpa using h
    rw [h]
    show (match Option.map (fun i => i + 1) (List.findIdx? (fun x => x.hit c a) l) with | some i => some ((y :: l).getD i cz).w | none => none) = _
    cases hh : List.findIdx? (fun x => x.hit c a) l with
    | none => rfl
    | some i => rfl
def dropC (l : List Cl) (c : Int) (a : Nat) : List Cl := match l.findIdx? (fun x => x.hit c a) with
  | some i => l.eraseIdx i
  | none => l
theorem dropC_cons (y : Cl) (l : List Cl) (c : Int) (a : Nat) : dropC (y :: l) c a = if y.hit c a = true then l else y :: dropC l c a := by
  unfold dropC
  rw [List.findIdx?_cons]
  by_cases h : y.hit c a = true
  · rw [h]; rfl
  · have h : y.hit c a = false := by simpa using h
    rw [h]
    show (match Option.map (fun i => i + 1) (List.findIdx? (fun x => x.hit c a) l) with | some i => (y :: l).eraseIdx i | none => y :: l) = _
    cases hh : List.findIdx? (fun x => x.hit c a) l with
    | none => rfl
    | some i => rfl
theorem fd_drop (l : List Cl) (c : Int) (a : Nat) : (fd l c a = -1 ∧ lk l c a = none ∧ dropC l c a = l) ∨ ∃ i, i < l.length ∧ fd l c a = i ∧ lk l c a = some (l.getD i cz).w ∧ dropC l c a = l.eraseIdx i := by
  unfold fd lk dropC
  cases h : l.findIdx? (fun x => x.hit c a) with
  | none => exact .inl ⟨rfl, rfl, rfl⟩
  | some i => exact .inr ⟨i, (List.findIdx?_eq_some_iff_getElem.1 h).1, rfl, rfl, rfl⟩
theorem dropC_len (l : List Cl) (c : Int) (a : Nat) : (dropC l c a).length ≤ l.length := by
  rcases fd_drop l c a with ⟨_, _, e⟩ | ⟨i, hi, _, _, e⟩
  · rw [e]; exact Nat.le_refl _
  · rw [e, List.length_eraseIdx_of_lt hi]; omega
theorem lk_app (l m : List Cl) (c : Int) (a : Nat) : lk (l ++ m) c a = (lk l c a).or (lk m c a) := by
  induction l with
  | nil => rfl
  | cons y l ih =>
    rw [List.cons_append, lk_cons, lk_cons, ih]
    split <;> rfl
theorem lk_one (x : Cl) (c : Int) (a : Nat) : lk [x] c a = if x.c = c ∧ x.a = a then some x.w else none := by
  rw [lk_cons, lk_nil]
  unfold Cl.hit
  by_cases h : x.c = c ∧ x.a = a
  · rw [if_pos h, if_pos (by simp [h])]
  · rw [if_neg h, if_neg (by simpa using h)]
/-- No two cells of one core and place. -/
def Uq (l : List Cl) : Prop := l.Pairwise fun x y => ¬ (x.c = y.c ∧ x.a = y.a)
theorem lk_out {l : List Cl} {c : Int} {a : Nat} (h : ∀ y ∈ l, ¬ (y.c = c ∧ y.a = a)) : lk l c a = none := by
  induction l with
  | nil => rfl
  | cons y l ih =>
    rw [lk_cons, if_neg (by unfold Cl.hit; simpa using h y (List.mem_cons_self ..))]
    exact ih fun z hz => h z (List.mem_cons_of_mem _ hz)
theorem dropC_mem {l : List Cl} {c : Int} {a : Nat} {y : Cl} (h : y ∈ dropC l c a) : y ∈ l := by
  induction l with
  | nil => exact h
  | cons z l ih =>
    rw [dropC_cons] at h
    split at h
    · exact List.mem_cons_of_mem _ h
    · rcases List.mem_cons.1 h with rfl | h
      · exact List.mem_cons_self ..
      · exact List.mem_cons_of_mem _ (ih h)
theorem dropC_uq {l : List Cl} (h : Uq l) (c : Int) (a : Nat) : Uq (dropC l c a) := by
  induction l with
  | nil => exact h
  | cons z l ih =>
    obtain ⟨h1, h2⟩ := List.pairwise_cons.1 h
    rw [dropC_cons]
    split
    · exact h2
    · exact List.pairwise_cons.2 ⟨fun y hy => h1 y (dropC_mem hy), ih h2⟩
theorem lk_drop {l : List Cl} (h : Uq l) (c : Int) (a : Nat) (c' : Int) (a' : Nat) : lk (dropC l c a) c' a' = if c' = c ∧ a' = a then none else lk l c' a' := by
  induction l with
  | nil => rw [lk_nil]; split <;> rfl
  | cons z l ih =>
    obtain ⟨h1, h2⟩ := List.pairwise_cons.1 h
    rw [dropC_cons, lk_cons]
    by_cases hz : z.c = c ∧ z.a = a
    · rw [if_pos (by unfold Cl.hit; simp [hz])]
      by_cases hc : c' = c ∧ a' = a
      · rw [if_pos hc]
        exact lk_out fun y hy e => h1 y hy ⟨by omega, by omega⟩
      · rw [if_neg hc, if_neg (by unfold Cl.hit; simp; omega)]
    · rw [if_neg (by unfold Cl.hit; simpa using hz), lk_cons, ih h2]
      by_cases hc : c' = c ∧ a' = a
      · rw [if_pos hc, if_neg (by unfold Cl.hit; simp; omega), if_pos hc]
      · rw [if_neg hc, if_neg hc]
theorem drop_out {l : List Cl} (h : Uq l) {c : Int} {a : Nat} : ∀ y ∈ dropC l c a, ¬ (y.c = c ∧ y.a = a) := by
  induction l with
  | nil => intro y hy; cases hy
  | cons z l ih =>
    obtain ⟨h1, h2⟩ := List.pairwise_cons.1 h
    intro y hy e
    rw [dropC_cons] at hy
    split at hy
    · next hz =>
      unfold Cl.hit at hz
      simp at hz
      exact h1 y hy ⟨by omega, by omega⟩
    · next hz =>
      rcases List.mem_cons.1 hy with rfl | hy
      · exact hz (by unfold Cl.hit; simp [e])
      · exact ih h2 y hy e
theorem uq_snoc {l : List Cl} (h : Uq l) {x : Cl} (hx : ∀ y ∈ l, ¬ (y.c = x.c ∧ y.a = x.a)) : Uq (l ++ [x]) := List.pairwise_append.2 ⟨h, List.pairwise_singleton _ _, fun y hy z hz => by
  rw [List.mem_singleton.1 hz]; exact hx y hy⟩
theorem lk_filter {l : List Cl} (q : Cl → Bool) (P : Int → Nat → Bool) (hq : ∀ y ∈ l, q y = P y.c y.a) (c : Int) (a : Nat) : lk (l.filter q) c a = if P c a = true then lk l c a else none := by
  induction l with
  | nil => rw [List.filter_nil, lk_nil]; split <;> rfl
  | cons z l ih =>
    have ih := ih fun y hy => hq y (List.mem_cons_of_mem _ hy)
    have hz := hq z (List.mem_cons_self ..)
    rw [List.filter_cons, lk_cons]
    by_cases hh : z.hit c a = true
    · have e : z.c = c ∧ z.a = a := by unfold Cl.hit at hh; simpa using hh
      rw [e.1, e.2] at hz
      rw [if_pos hh, hz]
      by_cases hp : P c a = true
      · rw [if_pos hp, if_pos hp, lk_cons, if_pos hh]
      · rw [if_neg hp, if_neg hp, ih, if_neg hp]
    · rw [if_neg hh]
      split
      · rw [lk_cons, if_neg hh, ih]
      · exact ih
/-! ### A row is laid anew -/
def Rs.lst (R : Rs) (k : Nat) : List Cl := if k = 0 then R.told else if k = 1 then R.cache else R.ahead
def Rs.setL (R : Rs) (k : Nat) (l : List Cl) : Rs := if k = 0 then { R with told := l } else if k = 1 then { R with cache := l } else { R with ahead := l }
theorem setL_facts (R : Rs) {k : Nat} (hk : k < 3) (l : List Cl) : ((R.setL k l).n = R.n ∧ (R.setL k l).T = R.T) ∧ (∀ i, i < 4 → i ≠ k → (R.setL k l).len i = R.len i ∧ (R.setL k l).cel i = R.cel i) ∧ (R.setL k l).len k = l.length ∧ (R.setL k l).cel k = clL l ∧ R.len k = (R.lst k).length ∧ R.cel k = clL (R.lst k) ∧ tyR k = 115 := by
  have : k = 0 ∨ k = 1 ∨ k = 2 := by omega
  rcases this with rfl | rfl | rfl
  · refine ⟨⟨rfl, rfl⟩, fun i hi hne => ?_, rfl, rfl, rfl, rfl, rfl⟩
    have : i = 1 ∨ i = 2 ∨ i = 3 := by omega
    rcases this with rfl | rfl | rfl <;> exact ⟨rfl, rfl⟩
  · refine ⟨⟨rfl, rfl⟩, fun i hi hne => ?_, rfl, rfl, rfl, rfl, rfl⟩
    have : i = 0 ∨ i = 2 ∨ i = 3 := by omega
    rcases this with rfl | rfl | rfl <;> exact ⟨rfl, rfl⟩
  · refine ⟨⟨rfl, rfl⟩, fun i hi hne => ?_, rfl, rfl, rfl, rfl, rfl⟩
    have : i = 0 ∨ i = 1 ∨ i = 3 := by omega
    rcases this with rfl | rfl | rfl <;> exact ⟨rfl, rfl⟩
section
variable {w w' : World} {lo : Nat → Prop} {p : Nat} {L : Rl} {V : Nat → Value} {R R' : Rs}
theorem RsC.cellk (h : RsC w lo p L V R) {k : Nat} (hk : k < 4) : w.cell? ⟨p, k + 2, none⟩ = some (V k) ∧ w.frozen? ⟨p, k + 2, none⟩ = false := by
  obtain ⟨_, _, c0, c1, c2, c3⟩ := h.cells
  refine ⟨?_, Lab.rowAt_frz (Lab.rowAt_of h.row) (k + 2)⟩
  have : k = 0 ∨ k = 1 ∨ k = 2 ∨ k = 3 := by omega
  rcases this with rfl | rfl | rfl | rfl
  · exact c0
  · exact c1
  · exact c2
  · exact c3
/-- One row is laid anew out of a new row. -/
theorem RsC.layG (h : RsC w lo p L V R) {k : Nat} (hk : k < 4) (hb : Below w.heap.size w w') {v' : Value} (ho : w'.ownsRow w.heap.size (tyR k) 3 v' (R'.len k) (R'.cel k)) (hR : R'.n = R.n ∧ R'.T = R.T) (hsame : ∀ i, i < 4 → i ≠ k → R'.len i = R.len i ∧ R'.cel i = R.cel i) (hs : R'.len k ≤ 1000000) :
    w'.cell? ⟨p, k + 2, none⟩ = some (V k) ∧ w'.frozen? ⟨p, k + 2, none⟩ = false ∧ (∃ V', RsC (w'.setCell ⟨p, k + 2, none⟩ v') lo p L V' R') ∧ Sv lo w (w'.setCell ⟨p, k + 2, none⟩ v') := by
  obtain ⟨c1, c2⟩ := (h.past hb).cellk hk
  exact ⟨c1, c2, ⟨_, h.put hk hb.size (fun q hq _ => hb.block q hq) (own_raise ho (Nat.zero_le _)) (fun q hq => .inr (ho.lt q hq).1) hR hsame hs⟩, (Sv.of hb).setCell h.lp _⟩
theorem RsC.lay (h : RsC w lo p L V R) {k : Nat} (hk : k < 3) (hb : Below w.heap.size w w') {v' : Value} {l : List Cl} (ho : w'.ownsRow w.heap.size 115 3 v' l.length (clL l)) (hs : l.length ≤ 1000000) :
    w'.cell? ⟨p, k + 2, none⟩ = some (V k) ∧ w'.frozen? ⟨p, k + 2, none⟩ = false ∧ (∃ V', RsC (w'.setCell ⟨p, k + 2, none⟩ v') lo p L V' (R.setL k l)) ∧ Sv lo w (w'.setCell ⟨p, k + 2, none⟩ v') := by
  obtain ⟨s1, s2, s3, s4, _, _, s7⟩ := setL_facts R hk l
  exact h.layG (by omega) hb (by rw [s3, s4, s7]; exact ho) s1 s2 (by rw [s3]; exact hs)
def ltR (k : Nat) : TypeId := if k = 3 then 83 else 82
theorem elR {k : Nat} (hk : k < 4) : El (ltR k) (tyR k) 3 := by
  have : k = 0 ∨ k = 1 ∨ k = 2 ∨ k = 3 := by omega
  rcases this with rfl | rfl | rfl | rfl
  · exact el115
  · exact el115
  · exact el115
  · exact el118
theorem RsC.rowsK (h : RsC w lo p L V R) {k : Nat} (hk : k < 4) : ∃ a cp, V k = .slice a (R.len k) cp := by
  obtain ⟨a, cp, e, _⟩ := own_form (h.rows k hk)
  exact ⟨a, cp, e⟩
/-- One row grows by one, and is laid in its place. -/
theorem RsC.pushG (h : RsC w lo p L V R) {k : Nat} (hk : k < 4) (a b c : Value) (h1 : ∀ u ∈ ([a, b, c] : List Value), u.oneCell' = true) (hR : R'.n = R.n ∧ R'.T = R.T) (hsame : ∀ i, i < 4 → i ≠ k → R'.len i = R.len i ∧ R'.cel i = R.cel i) (hl : R'.len k = R.len k + 1) (hc : R'.cel k = R.cel k ++ [a, b, c]) (hs : R.len k < 1000000) :
    ∃ v' w4, (Builtin.append_ #[ltR k, ltR k] (ltR k) #[V k, .slice (some ⟨w.heap.size, 0, none⟩) 1 1]).run Try.prog (w.alloc (.cells #[a, b, c] (tyR k))) = .ok v' w4 ∧ w4.cell? ⟨p, k + 2, none⟩ = some (V k) ∧ w4.frozen? ⟨p, k + 2, none⟩ = false ∧ (∃ a n cp, v' = .slice a n cp) ∧ (∃ V', RsC (w4.setCell ⟨p, k + 2, none⟩ v') lo p L V' R') ∧ Sv lo w (w4.setCell ⟨p, k + 2, none⟩ v') := by
  have hW : Below w.heap.size w (w.alloc (.cells #[a, b, c] (tyR k))) := (Below.refl _ _).alloc (Nat.le_refl _) _
  have hx := h.past hW
  have hn : ∀ q u', ([a, b, c] : List Value)[q]? = some u' → (w.alloc (.cells #[a, b, c] (tyR k))).cell? ((⟨w.heap.size, 0, none⟩ : Addr).add q) = some u' := fun q u' hu => by
    rw [Go.WideShapes.add_plain, Nat.zero_add, World.cell?_alloc_at _ _ _ _ rfl, ← Array.getElem?_toList]
    exact hu
  obtain ⟨v', w4, hr, ho, hg, hloc⟩ := app_c (elR hk) (w.alloc (.cells #[a, b, c] (tyR k))) 0 (R.len k) 1 (V k) (.slice (some ⟨w.heap.size, 0, none⟩) 1 1) (R.cel k) [a, b, c] (hx.rows k hk) ⟨_, _, rfl, rfl, hn, h1⟩ (by omega) (Nat.zero_le _)
  have hp4 := (hg.block p hx.pl (fun e => hx.rowblk hk e.symm rfl)).trans hx.row
  have hcell : w4.cell? ⟨p, k + 2, none⟩ = some (V k) := by
    have := (hx.cellk hk).1
    unfold World.cell? at this ⊢
    rw [hp4]
    rw [hx.row] at this
    exact this
  obtain ⟨a4, cp4, hv4, _⟩ := own_form ho
  refine ⟨v', w4, hr, hcell, Lab.rowAt_frz (Lab.rowAt_of hp4) (k + 2), ⟨_, _, _, hv4⟩, ⟨_, hx.put hk hg.size (fun q hq hne => hg.block q hq (fun e => hne e.symm)) (by rw [hl, hc]; exact ho) (fun q hq => hloc.elim (fun h1 => .inl (h1.symm.trans hq)) (fun h1 => .inr (by rw [h1] at hq; injection hq with hq; omega))) hR hsame (by rw [hl]; omega)⟩, ?_⟩
  exact ((Sv.of hW).grown hg (fun q hq => hx.rz k hk q hq)).setCell h.lp _
theorem RsC.push (h : RsC w lo p L V R) {k : Nat} (hk : k < 3) (x : Cl) (hs : (R.lst k).length < 1000000) :
    ∃ v' w4, (Builtin.append_ #[82, 82] 82 #[V k, .slice (some ⟨w.heap.size, 0, none⟩) 1 1]).run Try.prog (w.alloc (.cells #[.int .i64 x.c, .int .u64 (x.a : Nat), .int .u32 (x.w : Nat)] 115)) = .ok v' w4 ∧ w4.cell? ⟨p, k + 2, none⟩ = some (V k) ∧ w4.frozen? ⟨p, k + 2, none⟩ = false ∧ (∃ a n cp, v' = .slice a n cp) ∧ (∃ V', RsC (w4.setCell ⟨p, k + 2, none⟩ v') lo p L V' (R.setL k (R.lst k ++ [x]))) ∧ Sv lo w (w4.setCell ⟨p, k + 2, none⟩ v') := by
  obtain ⟨s1, s2, s3, s4, s5, s6, s7⟩ := setL_facts R hk (R.lst k ++ [x])
  have hl : ltR k = 82 := if_neg (by omega)
  have := h.pushG (R' := R.setL k (R.lst k ++ [x])) (k := k) (by omega) (.int .i64 x.c) (.int .u64 (x.a : Nat)) (.int .u32 (x.w : Nat)) (clL_one [x]) s1 s2 (by rw [s3, s5, List.length_append]; rfl) (by rw [s4, s6, clL_app]; rfl) (by rw [s5]; exact hs)
  rw [hl, s7] at this
  exact this
end
end Go.Proofs.Ytjcbhomfggjmhaa.Mm
