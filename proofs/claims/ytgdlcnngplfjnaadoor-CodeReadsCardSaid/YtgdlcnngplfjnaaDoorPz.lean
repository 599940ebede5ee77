import Derived.Test.YtgdlcnngplfjnaaDoorCp
import Derived.Lib.ItoaMem
import Derived.Lib.ItoaLen
import Derived.Lib.Atoi
import Derived.KernelRfl
namespace Go.Proofs.YtgdlcnngplfjnaaDoor.Co
open Go.Proofs.YtgdlcnngplfjnaaDoor Vf
set_option linter.unusedVariables false
/-! ### Parse, in plain words -/
def splitC (c : UInt8) : List UInt8 → List (List UInt8)
  | [] => [[]]
  | b :: r => if b = c then [] :: splitC c r else match splitC c r with
    | h :: t => (b :: h) :: t
    | [] => [[b]]
theorem splitC_ne (c : UInt8) : ∀ l, splitC c l ≠ []
  | [] => by simp [splitC]
  | b :: r => by
    unfold splitC
    split
    · simp
    · split
      · simp
      · simp
theorem splitC_at (c : UInt8) : ∀ (x y : List UInt8), c ∉ x → splitC c (x ++ c :: y) = x :: splitC c y
  | [], y, _ => by
    show splitC c (c :: y) = _
    rw [splitC, if_pos rfl]
  | b :: x, y, h => by
    have hb : b ≠ c := fun e => h (by rw [e]; exact List.mem_cons_self)
    show splitC c (b :: (x ++ c :: y)) = _
    rw [splitC, if_neg hb, splitC_at c x y (fun e => h (List.mem_cons_of_mem _ e))]
theorem splitC_no (c : UInt8) : ∀ (x : List UInt8), c ∉ x → splitC c x = [x]
  | [], _ => rfl
  | b :: x, h => by
    have hb : b ≠ c := fun e => h (by rw [e]; exact List.mem_cons_self)
    rw [splitC, if_neg hb, splitC_no c x (fun e => h (List.mem_cons_of_mem _ e))]
def wordsP (l : List UInt8) : List (List UInt8) := (splitC 32 l).filter fun w => !w.isEmpty
/-- The value of digits, the first ahead. -/
def digP : List UInt8 → Nat → Option Nat
  | [], v => some v
  | b :: r, v => if 48 ≤ b ∧ b ≤ 57 then digP r (10 * v + (b.toNat - 48)) else none
/-- A number as it is told: no sign but '-', no noughts ahead, at most six digits. -/
def numD (neg : Bool) (d : List UInt8) : Option Int := if d = [] ∨ 6 < d.length ∨ (1 < d.length ∧ d.head? = some 48) ∨ (neg = true ∧ d = [48]) then none else (digP d 0).map fun (v : Nat) => if neg then -(v : Int) else (v : Int)
def numP (s : List UInt8) : Option Int := if s.head? = some 45 then numD true (s.drop 1) else numD false s
theorem numD_some {neg : Bool} {d : List UInt8} {v : Int} (h : numD neg d = some v) : ¬ (d = [] ∨ 6 < d.length ∨ (1 < d.length ∧ d.head? = some 48) ∨ (neg = true ∧ d = [48])) ∧ ∃ u : Nat, digP d 0 = some u ∧ (if neg then -(u : Int) else (u : Int)) = v := by
  unfold numD at h
  by_cases hc : d = [] ∨ 6 < d.length ∨ (1 < d.length ∧ d.head? = some 48) ∨ (neg = true ∧ d = [48])
  · rw [if_pos hc] at h
    cases h
  · rw [if_neg hc] at h
    obtain ⟨u, h1, h2⟩ := Option.map_eq_some_iff.1 h
    exact ⟨hc, u, h1, h2⟩
def opN (c : Nat) : Nat := if kindO (c : Int) = 0 then 0 else if kindO (c : Int) = 4 then 2 else 1
/-- The bytes of a line's words. -/
def lineB : List (List UInt8) → Option (List Int)
  | [] => none
  | w :: r => match kindP w with
    | none => none
    | some c => if r.length ≠ opN c then none else match (r.mapM numP : Option (List Int)) with
      | none => none
      | some v => if wrE c (v.getD 0 0) (v.getD 1 0) = 0 then some (wrL c (v.getD 0 0) (v.getD 1 0)) else none
def parseL : Nat → List Int → List (List UInt8) → List Int × Nat × Int
  | _, acc, [] => (acc, 0, 0)
  | n, acc, l :: r => if wordsP l = [] then parseL (n + 1) acc r else match lineB (wordsP l) with
    | none => ([], n, 5)
    | some b => parseL (n + 1) (acc ++ b) r
def parseP (s : List UInt8) : List Int × Nat × Int := parseL 1 [] (splitC 10 s)
/-! ### What is told is read -/
theorem digP_app : ∀ (x y : List UInt8) (v u : Nat), digP x v = some u → digP (x ++ y) v = digP y u
  | [], y, v, u, h => by
    injection h with h
    subst h
    rfl
  | b :: x, y, v, u, h => by
    unfold digP at h
    show digP (b :: (x ++ y)) v = _
    rw [digP]
    split at h
    · rename_i hb
      rw [if_pos hb]
      exact digP_app x y _ u h
    · cases h
theorem dig_ok (d : Nat) (h : d < 10) : (48 : UInt8) ≤ UInt8.ofNat (48 + d) ∧ UInt8.ofNat (48 + d) ≤ 57 ∧ (UInt8.ofNat (48 + d)).toNat - 48 = d := by
  have : ∀ d, d < 10 → (48 : UInt8) ≤ UInt8.ofNat (48 + d) ∧ UInt8.ofNat (48 + d) ≤ 57 ∧ (UInt8.ofNat (48 + d)).toNat - 48 = d := by decide
  exact this d h
theorem digP_dec (u : Nat) : digP (Lib.decDigits u) 0 = some u := by
  induction u using Nat.strongRecOn with
  | _ u ih =>
    rw [Lib.decDigits]
    by_cases h : u < 10
    · rw [dif_pos h]
      obtain ⟨h1, h2, h3⟩ := dig_ok u h
      unfold digP
      rw [if_pos ⟨h1, h2⟩, h3]
      simp [digP]
    · rw [dif_neg h, digP_app _ _ 0 _ (ih (u / 10) (by omega))]
      obtain ⟨h1, h2, h3⟩ := dig_ok (u % 10) (Nat.mod_lt _ (by decide))
      unfold digP
      rw [if_pos ⟨h1, h2⟩, h3]
      unfold digP
      congr 1
      omega
theorem dec_mem (u : Nat) : ∀ b ∈ Lib.decDigits u, 48 ≤ b ∧ b ≤ 57 := by
  induction u using Nat.strongRecOn with
  | _ u ih =>
    rw [Lib.decDigits]
    by_cases h : u < 10
    · rw [dif_pos h]
      intro b hb
      obtain rfl := List.mem_singleton.1 hb
      exact ⟨(dig_ok u h).1, (dig_ok u h).2.1⟩
    · rw [dif_neg h]
      intro b hb
      rcases List.mem_append.1 hb with hb | hb
      · exact ih (u / 10) (by omega) b hb
      · obtain rfl := List.mem_singleton.1 hb
        have := dig_ok (u % 10) (Nat.mod_lt _ (by decide))
        exact ⟨this.1, this.2.1⟩
theorem dec_len (u : Nat) (h : u < 1000000) : (Lib.decDigits u).length ≤ 6 := by
  rw [Lib.decDigits_length]
  rcases Nat.lt_or_ge 6 (Lib.nDigits u) with hl | hl
  · exfalso
    have h1 : ∀ k v, Lib.nDigits v = k + 1 → 10 ^ k ≤ v ∨ v = 0 := by
      intro k
      induction k with
      | zero =>
        intro v hv
        omega
      | succ k ih =>
        intro v hv
        by_cases hs : v < 10
        · rw [Lib.nDigits_small hs] at hv; omega
        · rw [Lib.nDigits_big hs] at hv
          rcases ih (v / 10) (by omega) with h | h
          · left
            rw [Nat.pow_succ]
            omega
          · omega
    obtain ⟨k, hk⟩ : ∃ k, Lib.nDigits u = k + 1 := ⟨Lib.nDigits u - 1, by omega⟩
    rcases h1 k u hk with h2 | h2
    · have h3 : 10 ^ 6 ≤ 10 ^ k := Nat.pow_le_pow_right (by decide) (by omega)
      omega
    · subst h2
      rw [Lib.nDigits_small (by decide)] at hl
      omega
  · exact hl
theorem dec_head (u : Nat) (h : 10 ≤ u) : (Lib.decDigits u).head? ≠ some 48 := by
  induction u using Nat.strongRecOn with
  | _ u ih =>
    rw [Lib.decDigits, dif_neg (by omega)]
    by_cases h2 : u / 10 < 10
    · rw [Lib.decDigits, dif_pos h2]
      have : ∀ d, d < 10 → 1 ≤ d → UInt8.ofNat (48 + d) ≠ 48 := by decide
      simpa using this (u / 10) h2 (by omega)
    · have h3 := ih (u / 10) (by omega) (by omega)
      rcases hd : Lib.decDigits (u / 10) with _ | ⟨x, r⟩
      · have := Lib.decDigits_length (u / 10)
        have h4 := Lib.nDigits_pos (u / 10)
        rw [hd] at this
        simp at this
        omega
      · rw [hd] at h3
        simpa using h3
theorem dec_ne (u : Nat) : Lib.decDigits u ≠ [] := fun e => by
  have h1 := Lib.decDigits_length u
  have h2 := Lib.nDigits_pos u
  rw [e] at h1
  simp at h1
  omega
theorem dec_one {u : Nat} (h : 1 < (Lib.decDigits u).length) : 10 ≤ u := by
  rcases Nat.lt_or_ge u 10 with h2 | h2
  · rw [Lib.decDigits, dif_pos h2] at h
    simp at h
  · exact h2
theorem dec_h45 (u : Nat) : (Lib.decDigits u).head? ≠ some 45 := fun e => by
  have hm : (45 : UInt8) ∈ Lib.decDigits u := by
    rcases hd : Lib.decDigits u with _ | ⟨x, r⟩
    · rw [hd] at e; cases e
    · rw [hd] at e
      simp at e
      rw [e]
      exact List.mem_cons_self
  have := (dec_mem u 45 hm).1
  exact absurd this (by decide)
theorem numP_itoa (v : Int) (h : -1000000 < v ∧ v < 1000000) : numP (Lib.itoa v) = some v := by
  by_cases hv : v < 0
  · obtain ⟨u, rfl⟩ : ∃ u : Nat, v = -(u : Int) := ⟨v.natAbs, by omega⟩
    rw [Lib.itoa_neg u (by omega)]
    unfold numP
    rw [if_pos (show (45 :: Lib.decDigits u).head? = some 45 from rfl)]
    show numD true (Lib.decDigits u) = _
    unfold numD
    rw [if_neg, digP_dec]
    · rfl
    · rintro (q | q | ⟨q1, q2⟩ | ⟨_, q⟩)
      · exact dec_ne u q
      · have := dec_len u (by omega); omega
      · exact dec_head u (dec_one q1) q2
      · have hd := digP_dec u
        rw [q] at hd
        have : digP [48] 0 = some 0 := rfl
        rw [this] at hd
        injection hd with hd
        omega
  · obtain ⟨u, rfl⟩ : ∃ u : Nat, v = (u : Int) := ⟨v.toNat, by omega⟩
    rw [Lib.itoa_nonneg]
    unfold numP
    rw [if_neg (dec_h45 u)]
    unfold numD
    rw [if_neg, digP_dec]
    · rfl
    · rintro (q | q | ⟨q1, q2⟩ | ⟨q, _⟩)
      · exact dec_ne u q
      · have := dec_len u (by omega); omega
      · exact dec_head u (dec_one q1) q2
      · cases q
theorem itoa_mem (v : Int) : ∀ b ∈ Lib.itoa v, b ≠ 32 ∧ b ≠ 10 := by
  intro b hb
  have key : ∀ u : Nat, b ∈ Lib.decDigits u → b ≠ 32 ∧ b ≠ 10 := fun u h => by
    have h1 := dec_mem u b h
    exact ⟨fun e => by rw [e] at h1; exact absurd h1.1 (by decide), fun e => by rw [e] at h1; exact absurd h1.1 (by decide)⟩
  unfold Lib.itoa at hb
  split at hb
  · rcases List.mem_cons.1 hb with h | h
    · rw [h]; exact ⟨by decide, by decide⟩
    · exact key _ h
  · exact key _ hb
theorem itoa_ne (v : Int) : Lib.itoa v ≠ [] := by
  unfold Lib.itoa
  split
  · simp
  · exact dec_ne _
theorem nm_mem {c : Nat} (h : c < 41) : ∀ b ∈ nmC c, b ≠ 32 ∧ b ≠ 10 := by
  have : ∀ x ∈ nmL, ∀ b ∈ x, b ≠ 32 ∧ b ≠ 10 := by decide +kernel
  exact this _ (List.mem_of_getElem? (nmC_at h))
theorem nm_ne {c : Nat} (h : c < 41) : nmC c ≠ [] := by
  have : ∀ x ∈ nmL, x ≠ [] := by decide +kernel
  exact this _ (List.mem_of_getElem? (nmC_at h))
theorem no32 {l : List UInt8} (h : ∀ b ∈ l, b ≠ 32 ∧ b ≠ 10) : (32 : UInt8) ∉ l := fun e => (h 32 e).1 rfl
theorem no10 {l : List UInt8} (h : ∀ b ∈ l, b ≠ 32 ∧ b ≠ 10) : (10 : UInt8) ∉ l := fun e => (h 10 e).2 rfl
theorem keep_word {l : List UInt8} (h : l ≠ []) (r : List (List UInt8)) : (l :: r).filter (fun w => !w.isEmpty) = l :: r.filter fun w => !w.isEmpty := by
  rw [List.filter_cons, if_pos]
  cases l with
  | nil => exact absurd rfl h
  | cons x l => rfl
theorem words_line {c : Nat} (h : c < 41) (a b : Int) : wordsP (lineP c a b) = nmC c :: ((if kindO (c : Int) = 0 then [] else [Lib.itoa a]) ++ (if kindO (c : Int) = 4 then [Lib.itoa b] else [])) := by
  unfold wordsP lineP
  have hn := no32 (nm_mem h)
  have ha := no32 (itoa_mem a)
  have hb := no32 (itoa_mem b)
  by_cases h0 : kindO (c : Int) = 0
  · have h4 : ¬ kindO (c : Int) = 4 := by omega
    rw [if_pos h0, if_neg h4, if_pos h0, if_neg h4, List.append_nil, List.append_nil, splitC_no 32 _ hn, keep_word (nm_ne h)]
    rfl
  · by_cases h4 : kindO (c : Int) = 4
    · rw [if_neg h0, if_pos h4, if_neg h0, if_pos h4, List.append_assoc, List.cons_append, splitC_at 32 _ _ hn, splitC_at 32 _ _ ha, splitC_no 32 _ hb, keep_word (nm_ne h), keep_word (itoa_ne a), keep_word (itoa_ne b)]
      rfl
    · rw [if_neg h0, if_neg h4, if_neg h0, if_neg h4, List.append_nil, splitC_at 32 _ _ hn, splitC_no 32 _ ha, keep_word (nm_ne h), keep_word (itoa_ne a)]
      rfl
theorem line_read {c : Nat} (h : c < 41) {a b : Int} (ha : -100000 ≤ a ∧ a ≤ 100000) (hb : -100000 ≤ b ∧ b ≤ 100000) (k0 : kindO (c : Int) = 0 → a = 0) (k4 : kindO (c : Int) ≠ 4 → b = 0) (hw : wrE c a b = 0) : lineB (wordsP (lineP c a b)) = some (wrL c a b) := by
  rw [words_line h]
  simp only [lineB, kindP_nm h]
  by_cases h0 : kindO (c : Int) = 0
  · have h4 : ¬ kindO (c : Int) = 4 := by omega
    obtain rfl := k0 h0
    obtain rfl := k4 h4
    rw [if_pos h0, if_neg h4]
    have hn : opN c = 0 := by unfold opN; rw [if_pos h0]
    rw [if_neg (by rw [hn]; simp)]
    show (if wrE c 0 0 = 0 then _ else _) = _
    rw [if_pos hw]
    rfl
  · by_cases h4 : kindO (c : Int) = 4
    · rw [if_neg h0, if_pos h4]
      have hn : opN c = 2 := by unfold opN; rw [if_neg h0, if_pos h4]
      rw [if_neg (by rw [hn]; simp)]
      have hm : ([Lib.itoa a] ++ [Lib.itoa b]).mapM numP = (some [a, b] : Option (List Int)) := by
        simp [numP_itoa a ⟨by omega, by omega⟩, numP_itoa b ⟨by omega, by omega⟩]
      rw [hm]
      show (if wrE c a b = 0 then _ else _) = _
      rw [if_pos hw]
      rfl
    · obtain rfl := k4 h4
      rw [if_neg h0, if_neg h4]
      have hn : opN c = 1 := by unfold opN; rw [if_neg h0, if_neg h4]
      rw [if_neg (by rw [hn]; simp)]
      have hm : ([Lib.itoa a] ++ []).mapM numP = (some [a] : Option (List Int)) := by
        simp [numP_itoa a ⟨by omega, by omega⟩]
      rw [hm]
      show (if wrE c a 0 = 0 then _ else _) = _
      rw [if_pos hw]
      rfl
theorem line_no10 {c : Nat} (h : c < 41) (a b : Int) : (10 : UInt8) ∉ lineP c a b := by
  unfold lineP
  intro hm
  rcases List.mem_append.1 hm with hm | hm
  · rcases List.mem_append.1 hm with hm | hm
    · exact no10 (nm_mem h) hm
    · split at hm
      · cases hm
      · rcases List.mem_cons.1 hm with e | hm
        · exact absurd e (by decide)
        · exact no10 (itoa_mem a) hm
  · split at hm
    · rcases List.mem_cons.1 hm with e | hm
      · exact absurd e (by decide)
      · exact no10 (itoa_mem b) hm
    · cases hm
/-- What lines of bytecodes are read as. -/
theorem parse_text (n : Nat) (D : Nat → Nat) : ∀ (l : List Nat) (m : Nat) (acc : List Int), (∀ k ∈ l, D k < 41 ∧ (-100000 ≤ opA D k ∧ opA D k ≤ 100000) ∧ (-100000 ≤ opB D k ∧ opB D k ≤ 100000) ∧ wrE (D k : Nat) (opA D k) (opB D k) = 0) → parseL m acc (splitC 10 (textP n D l)) = (acc ++ l.flatMap fun k => wrL (D k : Nat) (opA D k) (opB D k), 0, 0)
  | [], m, acc, _ => by
    show parseL m acc [[]] = _
    simp [parseL, wordsP, splitC]
  | k :: l, m, acc, h => by
    obtain ⟨h1, h2, h3, h4⟩ := h k List.mem_cons_self
    have ht : textP n D (k :: l) = lineP (D k) (opA D k) (opB D k) ++ 10 :: textP n D l := by
      unfold textP
      rw [List.flatMap_cons, List.append_assoc]
      rfl
    rw [ht, splitC_at 10 _ _ (line_no10 h1 _ _)]
    have hr := line_read h1 h2 h3 (fun q => by unfold opA; rw [if_pos q]) (fun q => by unfold opB; rw [if_neg q]) h4
    have hne : ¬ wordsP (lineP (D k) (opA D k) (opB D k)) = [] := by
      rw [words_line h1]
      simp
    rw [parseL, if_neg hne, hr]
    show parseL (m + 1) (acc ++ wrL (D k : Nat) (opA D k) (opB D k)) (splitC 10 (textP n D l)) = _
    rw [parse_text n D l (m + 1) _ (fun q hq => h q (List.mem_cons_of_mem _ hq)), List.flatMap_cons, List.append_assoc]
/-! ### A number as the program reads it: by Atoi and Itoa -/
theorem digP_snoc : ∀ (d : List UInt8) (b : UInt8) (v u : Nat), digP (d ++ [b]) v = some u → ∃ x, digP d v = some x ∧ 48 ≤ b ∧ b ≤ 57 ∧ u = 10 * x + (b.toNat - 48)
  | [], b, v, u, h => by
    have h' : digP [b] v = some u := h
    unfold digP at h'
    split at h'
    · rename_i hb
      unfold digP at h'
      injection h' with h'
      exact ⟨v, rfl, hb.1, hb.2, h'.symm⟩
    · cases h'
  | a :: d, b, v, u, h => by
    have h' : digP (a :: (d ++ [b])) v = some u := h
    unfold digP at h'
    split at h'
    · rename_i ha
      obtain ⟨x, h1, h2⟩ := digP_snoc d b _ u h'
      refine ⟨x, ?_, h2⟩
      rw [digP, if_pos ha]
      exact h1
    · cases h'
theorem b_of (b : UInt8) (h : 48 ≤ b ∧ b ≤ 57) : UInt8.ofNat (48 + (b.toNat - 48)) = b ∧ b.toNat - 48 < 10 := by
  have h1 : 48 ≤ b.toNat := h.1
  have h2 : b.toNat ≤ 57 := h.2
  refine ⟨?_, by omega⟩
  have : 48 + (b.toNat - 48) = b.toNat := by omega
  rw [this]
  simp
theorem dec_of_dig : ∀ (m : Nat) (d : List UInt8) (v : Nat), d.length = m → d ≠ [] → (1 < d.length → d.head? ≠ some 48) → digP d 0 = some v → Lib.decDigits v = d := by
  intro m
  induction m with
  | zero =>
    intro d v hl hne
    exact absurd (List.length_eq_zero_iff.1 hl) hne
  | succ m ih =>
    intro d v hl hne hz hd
    obtain ⟨d', b, rfl⟩ : ∃ d' b, d = d' ++ [b] := ⟨d.dropLast, d.getLast hne, (List.dropLast_concat_getLast hne).symm⟩
    obtain ⟨x, h1, h2, h3, h4⟩ := digP_snoc d' b 0 v hd
    obtain ⟨hb1, hb2⟩ := b_of b ⟨h2, h3⟩
    by_cases h0 : d' = []
    · subst h0
      have hx : x = 0 := by
        have : digP [] 0 = some x := h1
        unfold digP at this
        injection this with this
        exact this.symm
      subst hx
      rw [Lib.decDigits, dif_pos (by omega), h4]
      simp only [Nat.mul_zero, Nat.zero_add, hb1, List.nil_append]
    · have hlen : d'.length = m := by simpa using hl
      have hh : (d' ++ [b]).head? = d'.head? := by cases d' with
        | nil => exact absurd rfl h0
        | cons y r => rfl
      have hz' : d'.head? ≠ some 48 := by
        rw [← hh]
        apply hz
        have : 0 < d'.length := List.length_pos_iff.2 h0
        rw [List.length_append, List.length_singleton]
        omega
      have hr := ih d' x hlen h0 (fun _ => hz') h1
      have hx1 : 1 ≤ x := by
        rcases Nat.eq_zero_or_pos x with h | h
        · exfalso
          subst h
          rw [Lib.decDigits, dif_pos (by decide)] at hr
          rw [← hr] at hz'
          exact hz' rfl
        · exact h
      rw [Lib.decDigits, dif_neg (by omega), h4]
      have e1 : (10 * x + (b.toNat - 48)) / 10 = x := by omega
      have e2 : (10 * x + (b.toNat - 48)) % 10 = b.toNat - 48 := by omega
      rw [e1, e2, hr, hb1]
theorem digP_from : ∀ (d : List UInt8) (v : Nat), Lib.decFrom v d = digP d v
  | [], v => rfl
  | b :: d, v => by
    unfold Lib.decFrom Lib.digitVal digP
    have e : (48 ≤ b.toNat ∧ b.toNat ≤ 57) ↔ (48 ≤ b ∧ b ≤ 57) := Iff.rfl
    by_cases h : 48 ≤ b ∧ b ≤ 57
    · rw [if_pos (e.2 h), if_pos h]
      show Lib.decFrom (v * 10 + (b.toNat - 48)) d = _
      rw [Nat.mul_comm, digP_from d]
    · rw [if_neg (fun q => h (e.1 q)), if_neg h]
/-- As the program reads one. -/
def numQ (w : List UInt8) : Option Int := if 6 < (if w.head? = some 45 then w.drop 1 else w).length then none else match Lib.atoi w with
  | some v => if Lib.itoa v = w then some v else none
  | none => none
theorem itoa_small {w : List UInt8} {v : Int} (h : Lib.itoa v = w) (hl : ¬ 6 < (if w.head? = some 45 then w.drop 1 else w).length) : -1000000 < v ∧ v < 1000000 := by
  have key : ∀ u : Nat, ¬ 6 < (Lib.decDigits u).length → u < 1000000 := fun u hu => by
    rcases Nat.lt_or_ge u 1000000 with h | h
    · exact h
    · exfalso
      apply hu
      rw [Lib.decDigits_length]
      have := Lib.lt_pow_nDigits u
      rcases Nat.lt_or_ge 6 (Lib.nDigits u) with h2 | h2
      · exact h2
      · have h3 : 10 ^ Lib.nDigits u ≤ 10 ^ 6 := Nat.pow_le_pow_right (by decide) h2
        omega
  by_cases hv : v < 0
  · obtain ⟨u, rfl⟩ : ∃ u : Nat, v = -(u : Int) := ⟨v.natAbs, by omega⟩
    rw [Lib.itoa_neg u (by omega)] at h
    subst h
    have := key u (by simpa using hl)
    omega
  · obtain ⟨u, rfl⟩ : ∃ u : Nat, v = (u : Int) := ⟨v.toNat, by omega⟩
    rw [Lib.itoa_nonneg] at h
    subst h
    rw [if_neg (dec_h45 u)] at hl
    have := key u hl
    omega
theorem numQ_P (w : List UInt8) : numQ w = numP w := by
  unfold numQ
  by_cases hl : 6 < (if w.head? = some 45 then w.drop 1 else w).length
  · rw [if_pos hl]
    unfold numP numD
    by_cases hn : w.head? = some 45
    · rw [if_pos hn] at hl ⊢
      rw [if_pos (.inr (.inl hl))]
    · rw [if_neg hn] at hl ⊢
      rw [if_pos (.inr (.inl hl))]
  · rw [if_neg hl]
    cases hp : numP w with
    | some v =>
      have hq : Lib.itoa v = w ∧ Lib.atoi w = some v := by
        unfold numP at hp
        by_cases hn : w.head? = some 45
        · rw [if_pos hn] at hp
          obtain ⟨r, rfl⟩ : ∃ r, w = 45 :: r := by
            cases w with
            | nil => cases hn
            | cons x r => simp at hn; exact ⟨r, by rw [hn]⟩
          obtain ⟨hc, u, hu, hv⟩ := numD_some hp
          have hc' : ¬ (r = [] ∨ 6 < r.length ∨ (1 < r.length ∧ r.head? = some 48) ∨ (true = true ∧ r = [48])) := hc
          have hu' : digP r 0 = some u := hu
          have hd := dec_of_dig r.length r u rfl (fun e => hc' (.inl e)) (fun h1 h2 => hc' (.inr (.inr (.inl ⟨h1, h2⟩)))) hu'
          have hu0 : 1 ≤ u := by
            rcases Nat.eq_zero_or_pos u with h | h
            · exfalso
              subst h
              rw [Lib.decDigits, dif_pos (by decide)] at hd
              exact hc' (.inr (.inr (.inr ⟨rfl, hd.symm⟩)))
            · exact h
          obtain rfl : -(u : Int) = v := hv
          refine ⟨by rw [Lib.itoa_neg u hu0, hd], ?_⟩
          have hne : r.isEmpty = false := by
            cases r with
            | nil => exact absurd (Or.inl rfl) hc'
            | cons x r => rfl
          rw [show Lib.atoi (45 :: r) = (Lib.decNat r).map (fun (m : Nat) => -(m : Int)) from rfl, Lib.decNat, hne, digP_from]
          simp only [Bool.false_eq_true, if_false]
          rw [hu']
          rfl
        · rw [if_neg hn] at hp
          obtain ⟨hc, u, hu, hv⟩ := numD_some hp
          have hd := dec_of_dig w.length w u rfl (fun e => hc (.inl e)) (fun h1 h2 => hc (.inr (.inr (.inl ⟨h1, h2⟩)))) hu
          obtain rfl : (u : Int) = v := hv
          refine ⟨by rw [Lib.itoa_nonneg, hd], ?_⟩
          cases w with
          | nil => exact absurd (Or.inl rfl) hc
          | cons x r =>
            have hx : 48 ≤ x ∧ x ≤ 57 := by
              have h9 := hu
              unfold digP at h9
              by_cases hb : 48 ≤ x ∧ x ≤ 57
              · exact hb
              · rw [if_neg hb] at h9
                cases h9
            have n45 : (x == 45) = false := by
              rw [beq_eq_false_iff_ne]
              intro e
              rw [e] at hx
              exact absurd hx.1 (by decide)
            have n43 : (x == 43) = false := by
              rw [beq_eq_false_iff_ne]
              intro e
              rw [e] at hx
              exact absurd hx.1 (by decide)
            simp only [Lib.atoi, n45, n43, Bool.false_eq_true, if_false]
            rw [Lib.decNat, show (x :: r).isEmpty = false from rfl, digP_from]
            simp only [Bool.false_eq_true, if_false]
            rw [hu]
            rfl
      rw [hq.2]
      show (if Lib.itoa v = w then some v else none) = some v
      rw [if_pos hq.1]
    | none =>
      cases ha : Lib.atoi w with
      | none => rfl
      | some v =>
        show (if Lib.itoa v = w then some v else none) = none
        by_cases he : Lib.itoa v = w
        · exfalso
          have hs := itoa_small he hl
          have := numP_itoa v hs
          rw [he, hp] at this
          cases this
        · rw [if_neg he]
end Go.Proofs.YtgdlcnngplfjnaaDoor.Co
