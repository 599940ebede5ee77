import Derived.Test.YtnbpgoacooddjaaFIns1
namespace Go.Proofs.Ytnbpgoacooddjaa.Fr
open Go.RowKit
set_option linter.unusedVariables false
set_option maxRecDepth 100000 in
set_option maxHeartbeats 1000000 in
theorem insert_0 (B : Nat) (r : Int) (w : World) (hB : B ≤ w.heap.size) :
    Calls Try.prog 188 #[.slice none 0 0, .int .i64 r] w (InsP B none [] r w) := by
  obtain ⟨i0, hi, hz0, hz1, hz2⟩ := info_parts info3
  have hxs : ins [] r = ([] : List Int).take 0 ++ r :: ([] : List Int).drop 0 := rfl
  have hd0 : (ivs []).drop 0 = [] := rfl
  have HO2 : Hid ((w.alloc (.cells #[.int .i64 r] 3)).ownsRow B 3 1 (.slice none 0 0) 0 (ivs [])) := Lib.hid (World.ownsRow_nil _ _ _ _)
  go_enter Try.func188, Try.ntmps188
  go_wp2
  go_loop [5] (fun i => i = .int .i64 0) (fun i => 0)
  case atStart => rfl
  case round =>
    subst hrel
    go_wp2_with (at_builtin; refine wpList_append_own_at _ rfl _ _ 36 rfl B 3 i0 _ 1 8 Try.underlying36 hi hz0 hz1 hz2 rfl (by decide) _ 0 (ivs []) rfl HO2.out ⟨w.heap.size, 0, none⟩ 1 1 [.int .i64 r] rfl rfl (cell_one_new w _ 3) (by intro u hu; rw [List.mem_singleton] at hu; subst hu; rfl) (by unfold maxLen; omega) (by omega) (by simp; omega) ?_)
    intro v1 w1 hown hgrow hnil hblk
    rcases hown.2 with ⟨_, h1⟩ | ⟨g1, cap1, cur, rfl, hb1, hg1, hn1, hm1, hs1, ht1⟩
    · omega
    have HB1 : Hid (w.grownBy w1 none) := Lib.hid ((World.grownBy_alloc w _ _).trans hgrow)
    have HQ : some g1 = none ∨ w.heap.size ≤ g1 := by rcases hblk with h | h <;> simp [Value.ownBlock] at h ⊢ <;> omega
    have HG1 : Hid (w1.heap[g1]? = some (.cells cur.toList.toArray 3 (0, 0))) := Lib.hid hg1
    have HT1 := Lib.hid ht1
    have hcl : cur.toList.length = cap1 := by simpa using hs1
    clear hown hnil hblk hg1 ht1 hs1
    generalize cur.toList = L1 at *
    clear cur
    have wr : IntKind.i64.wrap 1 = 1 := by decide
    have hc0 : (cap1 = 0) = False := eq_false (by omega)
    by_cases hcap : cap1 = 1
    · subst hcap
      go_wp2
      go_region_law (refine step_copy_grow rfl (.tmp 41) (.tmp 44) 36 36 rfl 3 Try.underlying36 size3 (some ⟨g1, 0, none⟩) (some ⟨g1, 0, none⟩) 0 0 1 1 (by simp [Act.eval, Act.put]) (by simp [Act.eval, Act.put]) g1 (0 + 1) L1 3 HG1.out ((ivs []).drop 0) (by rw [hd0]; rfl) (fun h => absurd h (by rw [hd0]; decide)) (by rw [hd0]; simp; omega) (by rw [hd0]; simp) ?_; intro w4 HG4 HB4)
      obtain ⟨u, hu⟩ := row_cell (k := 0) (cs := (ivs []).drop 0) (by rw [hd0]; simp; omega) (by omega) hcl HG4.out
      have hfz := frozen_of_row w4 g1 0 _ 3 HG4.out
      have hrow := row_ins (w4 := w4) (k := 0) (r := r) (n := 0) (xs := []) hb1 (by omega) rfl hcl hn1 hm1 HT1.out HG4.out
      rw [← hxs] at hrow
      have HRW := Lib.hid hrow
      have HB4' : Hid (w1.grownBy w4 (some g1)) := Lib.hid ⟨HB4.os, HB4.tape, HB4.output, HB4.size, HB4.block⟩
      clear hrow HG4 HB4
      go_wp2
      go_ret
      exact ⟨_, rfl, HRW.out, grown3 _ HB1.out HQ HB4'.out⟩
    · have hcap' : (cap1 = 1) = False := eq_false hcap
      go_wp2
      go_region_law (refine step_copy_grow rfl (.tmp 41) (.tmp 44) 36 36 rfl 3 Try.underlying36 size3 (some ⟨g1, 1, none⟩) (some ⟨g1, 0, none⟩) 0 (cap1 - 1) 1 cap1 (by simp [Act.eval, Act.put]) (by simp [Act.eval, Act.put]) g1 (0 + 1) L1 3 HG1.out ((ivs []).drop 0) (by rw [hd0]; rfl) (fun h => absurd h (by rw [hd0]; decide)) (by rw [hd0]; simp; omega) (by rw [hd0]; simp) ?_; intro w4 HG4 HB4)
      obtain ⟨u, hu⟩ := row_cell (k := 0) (cs := (ivs []).drop 0) (by rw [hd0]; simp; omega) (by omega) hcl HG4.out
      have hfz := frozen_of_row w4 g1 0 _ 3 HG4.out
      have hrow := row_ins (w4 := w4) (k := 0) (r := r) (n := 0) (xs := []) hb1 (by omega) rfl hcl hn1 hm1 HT1.out HG4.out
      rw [← hxs] at hrow
      have HRW := Lib.hid hrow
      have HB4' : Hid (w1.grownBy w4 (some g1)) := Lib.hid ⟨HB4.os, HB4.tape, HB4.output, HB4.size, HB4.block⟩
      clear hrow HG4 HB4
      go_wp2
      go_ret
      exact ⟨_, rfl, HRW.out, grown3 _ HB1.out HQ HB4'.out⟩
theorem insert_own (B n : Nat) (xs : List Int) (r : Int) (v : Value) (w : World) (hB : B ≤ w.heap.size) (hn : n ≤ 40) (hs : xs.Pairwise (· < ·)) (hz : xs = [] → v = .slice none 0 0) (HO : w.ownsRow B 3 1 v n (ivs xs)) :
    Calls Try.prog 188 #[v, .int .i64 r] w (InsP B v.ownBlock xs r w) := by
  have hlen : xs.length = n := by simpa [ivs] using HO.1
  by_cases h0 : n = 0
  · subst h0
    obtain rfl : xs = [] := List.eq_nil_of_length_eq_zero hlen
    rw [hz rfl]
    exact insert_0 B r w hB
  · obtain ⟨g, cap, rfl⟩ : ∃ g cap, v = .slice (some ⟨g, 0, none⟩) n cap := by
      rcases HO.2 with ⟨_, h⟩ | ⟨g, cap, cur, rfl, _⟩
      · exact absurd h h0
      · exact ⟨g, cap, rfl⟩
    exact insert_s B g n cap xs r w hB hlen hn (by omega) hs (Lib.hid HO)
theorem mem_ins (r x : Int) : ∀ xs : List Int, x ∈ ins xs r ↔ x = r ∨ x ∈ xs
  | [] => by simp [ins]
  | y :: ys => by
    have ih := mem_ins r x ys
    simp only [ins]
    split
    · simp only [List.mem_cons, ih]
      constructor <;> (intro h; rcases h with h | h | h <;> simp [h])
    · split
      · rename_i h; subst h; simp
      · simp
theorem ins_sorted (r : Int) : ∀ xs : List Int, xs.Pairwise (· < ·) → (ins xs r).Pairwise (· < ·)
  | [], _ => by simp [ins]
  | x :: xs, h => by
    have hx := List.pairwise_cons.1 h
    simp only [ins]
    split
    · refine List.pairwise_cons.2 ⟨fun y hy => ?_, ins_sorted r xs hx.2⟩
      rcases (mem_ins r y xs).1 hy with rfl | hy
      · assumption
      · exact hx.1 y hy
    · split
      · exact h
      · refine List.pairwise_cons.2 ⟨fun y hy => ?_, h⟩
        rcases List.mem_cons.1 hy with rfl | hy
        · omega
        · have := hx.1 y hy; omega
theorem ins_ne (xs : List Int) (r : Int) : ins xs r ≠ [] := fun h => by
  have := (mem_ins r r xs).2 (.inl rfl)
  rw [h] at this
  cases this
theorem ins_length (r : Int) : ∀ xs : List Int, (ins xs r).length ≤ xs.length + 1
  | [] => by simp [ins]
  | x :: xs => by
    have := ins_length r xs
    simp only [ins]
    split
    · simpa using this
    · split <;> simp
/-- What registers makes of the registers that it is told: 31 is none. -/
def put (xs : List Int) (r : Int) : List Int := if r = 31 then xs else ins xs r
theorem put_sorted (xs : List Int) (r : Int) (h : xs.Pairwise (· < ·)) : (put xs r).Pairwise (· < ·) := by
  unfold put; split
  · exact h
  · exact ins_sorted r xs h
/-- What is told, one behind the other. -/
def puts (l : List Int) : List Int := l.foldl put []
theorem puts_snoc (l : List Int) (r : Int) : puts (l ++ [r]) = put (puts l) r := by simp [puts]
theorem puts_sorted_from (l xs : List Int) (h : xs.Pairwise (· < ·)) : (l.foldl put xs).Pairwise (· < ·) := by
  induction l generalizing xs with
  | nil => exact h
  | cons a l ih => exact ih _ (put_sorted xs a h)
theorem puts_sorted (l : List Int) : (puts l).Pairwise (· < ·) := puts_sorted_from l [] List.Pairwise.nil
theorem mem_puts_from (x : Int) (l : List Int) : ∀ xs : List Int, x ∈ l.foldl put xs ↔ x ∈ xs ∨ x ≠ 31 ∧ x ∈ l := by
  induction l with
  | nil => intro xs; simp
  | cons a l ih =>
    intro xs
    rw [List.foldl_cons, ih]
    unfold put
    by_cases ha : a = 31
    · subst ha
      simp only [List.mem_cons]
      constructor
      · rintro (h | ⟨h, k⟩)
        · exact .inl h
        · exact .inr ⟨h, .inr k⟩
      · rintro (h | ⟨h, k | k⟩)
        · exact .inl h
        · exact absurd k h
        · exact .inr ⟨h, k⟩
    · simp only [if_neg ha, mem_ins, List.mem_cons]
      constructor
      · rintro ((h | h) | ⟨h, k⟩)
        · exact .inr ⟨by rw [h]; exact ha, .inl h⟩
        · exact .inl h
        · exact .inr ⟨h, .inr k⟩
      · rintro (h | ⟨h, k | k⟩)
        · exact .inl (.inr h)
        · exact .inl (.inl k)
        · exact .inr ⟨h, k⟩
theorem mem_puts (x : Int) (l : List Int) : x ∈ puts l ↔ x ≠ 31 ∧ x ∈ l := by
  unfold puts; rw [mem_puts_from]; simp
theorem sorted_ext : ∀ (l m : List Int), l.Pairwise (· < ·) → m.Pairwise (· < ·) → (∀ x, x ∈ l ↔ x ∈ m) → l = m
  | [], [], _, _, _ => rfl
  | [], y :: ys, _, _, h => by have := (h y).2 (by simp); cases this
  | x :: xs, [], _, _, h => by have := (h x).1 (by simp); cases this
  | x :: xs, y :: ys, hl, hm, h => by
    have hx := List.pairwise_cons.1 hl
    have hy := List.pairwise_cons.1 hm
    have e : x = y := by
      rcases List.mem_cons.1 ((h x).1 (by simp)) with e | e
      · exact e
      · rcases List.mem_cons.1 ((h y).2 (by simp)) with e' | e'
        · exact e'.symm
        · have := hx.1 y e'; have := hy.1 x e; omega
    subst e
    congr 1
    refine sorted_ext xs ys hx.2 hy.2 fun z => ?_
    constructor
    · intro hz
      have := hx.1 z hz
      rcases List.mem_cons.1 ((h z).1 (by simp [hz])) with e | e
      · omega
      · exact e
    · intro hz
      have := hy.1 z hz
      rcases List.mem_cons.1 ((h z).2 (by simp [hz])) with e | e
      · omega
      · exact e
/-- The order in which they are told is nothing to it. -/
theorem puts_ext (l m : List Int) (h : ∀ x, x ∈ l ↔ x ∈ m) : puts l = puts m :=
  sorted_ext _ _ (puts_sorted l) (puts_sorted m) fun x => by rw [mem_puts, mem_puts, h]
theorem puts_length (l : List Int) : (puts l).length ≤ l.length := by
  have : ∀ (l xs : List Int), (l.foldl put xs).length ≤ xs.length + l.length := by
    intro l
    induction l with
    | nil => intro xs; simp
    | cons a l ih =>
      intro xs
      have h1 := ih (put xs a)
      have h2 : (put xs a).length ≤ xs.length + 1 := by
        unfold put; split
        · omega
        · exact ins_length a xs
      simp only [List.foldl_cons, List.length_cons]
      omega
  simpa [puts] using this l []
end Go.Proofs.Ytnbpgoacooddjaa.Fr
