import Derived.Test.YtjcbhomfggjmhaaMa
import Derived.Deep.MidRow
import Derived.Deep.RegionWith
import Derived.Deep.RegionLaw
namespace Go.Proofs.Ytjcbhomfggjmhaa.Mm
open Go.ChangeShapes Go.WideShapes Go.ChangeAt Go.RowKit
set_option linter.unusedVariables false
/-- A memory, as plain data. -/
structure Me where
  n : Nat
  A : Nat → Nat
  S : Nat → Nat
  W : Nat → Bool
  X : Nat → Bool
  y : Nat → Nat → Nat
structure MeOk (M : Me) : Prop where
  n16 : M.n ≤ 16
  sz : ∀ j, j < M.n → 0 < M.S j ∧ M.S j ≤ 16777216 ∧ M.A j + M.S j ≤ 281474976710656 ∧ M.A j % 8 = 0 ∧ M.S j % 8 = 0
  ord : ∀ i j, i < j → j < M.n → M.A i + M.S i ≤ M.A j
  byt : ∀ k o, M.y k o < 256
/-- So many bytes from a place on lie in one region. -/
def Hs (M : Me) (x m k o : Nat) : Prop := k < M.n ∧ x = M.A k + o ∧ o < M.S k ∧ o + m ≤ M.S k
theorem Hs.uniq {M : Me} (h : MeOk M) {x m m' k o k' o' : Nat} (a : Hs M x m k o) (b : Hs M x m' k' o') : k = k' ∧ o = o' := by
  obtain ⟨a1, a2, a3, _⟩ := a
  obtain ⟨b1, b2, b3, _⟩ := b
  rcases Nat.lt_trichotomy k k' with h1 | h1 | h1
  · have := h.ord k k' h1 b1
    omega
  · subst h1
    omega
  · have := h.ord k' k h1 a1
    omega
/-- An area's cells, or a piece's. -/
def arC (M : Me) (B C : Nat → Nat) (j : Nat) : List Value := [.int .u64 (M.A j : Nat), .int .u64 (M.S j : Nat), .bool (M.W j), .bool (M.X j), .slice (some ⟨B j, 0, none⟩) (M.S j) (C j)]
def arL (M : Me) (B C : Nat → Nat) : Nat → List Value
  | 0 => []
  | n + 1 => arL M B C n ++ arC M B C n
theorem arL_len (M : Me) (B C : Nat → Nat) : ∀ n, (arL M B C n).length = n * 5
  | 0 => rfl
  | n + 1 => by unfold arL; rw [List.length_append, arL_len M B C n]; simp [arC]; omega
theorem arL_at (M : Me) (B C : Nat → Nat) (j i : Nat) (hi : i < 5) : ∀ n, j < n → (arL M B C n)[j * 5 + i]? = (arC M B C j)[i]? := by
  intro n
  induction n with
  | zero => intro h; omega
  | succ n ih =>
    intro h
    unfold arL
    rcases Nat.lt_or_ge j n with hj | hj
    · rw [List.getElem?_append_left (by rw [arL_len]; omega)]
      exact ih hj
    · obtain rfl : j = n := by omega
      rw [List.getElem?_append_right (by rw [arL_len]; omega), arL_len, Nat.add_sub_cancel_left]
theorem arL_congr (M N : Me) (B C B' C' : Nat → Nat) : ∀ n, (∀ j, j < n → arC M B C j = arC N B' C' j) → arL M B C n = arL N B' C' n
  | 0, _ => rfl
  | n + 1, h => by unfold arL; rw [arL_congr M N B C B' C' n fun j hj => h j (by omega), h n (by omega)]
theorem arL_one (M : Me) (B C : Nat → Nat) (n : Nat) : ∀ u ∈ arL M B C n, u.oneCell' = true := by
  induction n with
  | zero => intro u hu; cases hu
  | succ n ih =>
    intro u hu
    unfold arL at hu
    rcases List.mem_append.1 hu with h | h
    · exact ih u h
    · simp [arC] at h
      rcases h with rfl | rfl | rfl | rfl | rfl <;> rfl
def byL (y : Nat → Nat) (s : Nat) : List Value := (List.range s).map fun o => .int .u8 (y o : Nat)
theorem byL_at (y : Nat → Nat) (s o : Nat) (h : o < s) : (byL y s)[o]? = some (.int .u8 (y o : Nat)) := by unfold byL; rw [List.getElem?_map, List.getElem?_range h]; rfl
theorem own_cells {w : World} {B n cap size : Nat} {e : TypeId} {g : Nat} {xs : List Value} (h : w.ownsRow B e size (.slice (some ⟨g, 0, none⟩) n cap) n xs) : (∀ q u, xs[q]? = some u → w.cell? ⟨g, q, none⟩ = some u) ∧ (∀ q, w.frozen? ⟨g, q, none⟩ = false) := by
  rcases h.2 with ⟨h1, _⟩ | ⟨g', cap', cur, hv, hb, hg, hc, hm, hs, ht⟩
  · cases h1
  · injection hv with e1 e2 e3
    injection e1 with e1
    injection e1 with e1
    subst e1 e3
    refine ⟨fun q u hu => ?_, fun q => frozen_of_row w g q cur e hg⟩
    rw [cell_of_row w g q cur e _ hg]
    rw [← ht, List.getElem?_take] at hu
    split at hu
    · simpa using hu
    · cases hu
theorem own_cap {w : World} {B n cap size : Nat} {e : TypeId} {a : Option Addr} {xs : List Value} (h : w.ownsRow B e size (.slice a n cap) n xs) : n ≤ cap := by
  rcases h.2 with ⟨h1, h2⟩ | ⟨g', cap', cur, hv, hb, hg, hc, hm, hs, ht⟩
  · omega
  · injection hv with e1 e2 e3
    subst e3
    exact hc
theorem own_form {w : World} {base n size : Nat} {e : TypeId} {v : Value} {xs : List Value} (h : w.ownsRow base e size v n xs) : ∃ a cap, v = .slice a n cap ∧ (n = 0 ∨ ∃ g, a = some ⟨g, 0, none⟩) := by
  rcases h.2 with ⟨rfl, rfl⟩ | ⟨g, cap, cur, rfl, _, _, hc, _⟩
  · exact ⟨none, 0, rfl, .inl rfl⟩
  · exact ⟨_, cap, rfl, .inr ⟨g, rfl⟩⟩
theorem own_heap {w : World} {base n size g : Nat} {e : TypeId} {v : Value} {xs : List Value} (h : w.ownsRow base e size v n xs) (hg : v.ownBlock = some g) : ∃ cur, w.heap[g]? = some (.cells cur e (0, 0)) := by
  rcases h.2 with ⟨rfl, _⟩ | ⟨g', cap, cur, rfl, hb, hg', _⟩
  · cases hg
  · injection hg with hg
    subst hg
    exact ⟨cur, hg'⟩
theorem own_kept {w w' : World} {base n size : Nat} {e : TypeId} {v : Value} {xs : List Value} (h : w.ownsRow base e size v n xs) (hk : ∀ g, v.ownBlock = some g → w'.heap[g]? = w.heap[g]?) : w'.ownsRow base e size v n xs := by
  refine ⟨h.1, ?_⟩
  rcases h.2 with h2 | ⟨g, cap, cur, rfl, hb, hg, h3⟩
  · exact .inl h2
  · exact .inr ⟨g, cap, cur, rfl, hb, (hk g rfl).trans hg, h3⟩
/-- Where a memory lies: the blocks FP are its own. tm, ta: the types of a memory and of an area, of the program (64, 67) or the document (70, 72). -/
structure MeC (tm ta : TypeId) (w : World) (FP : Nat → Prop) (p : Nat) (M : Me) (v : Value) (B C : Nat → Nat) : Prop where
  row : w.heap[p]? = some (.cells #[v] tm (0, 0))
  ars : w.ownsRow 0 ta 5 v M.n (arL M B C M.n)
  byt : ∀ k, k < M.n → w.ownsRow 0 5 1 (.slice (some ⟨B k, 0, none⟩) (M.S k) (C k)) (M.S k) (byL (M.y k) (M.S k))
  inj : ∀ i k, i < M.n → k < M.n → B i = B k → i = k
  fp : FP p
  fv : ∀ g, v.ownBlock = some g → FP g
  fb : ∀ k, k < M.n → FP (B k)
  fl : ∀ k, FP k → k < w.heap.size
  ok : MeOk M
theorem MeC.kept {tm ta : TypeId} {w w' : World} {FP : Nat → Prop} {p : Nat} {M : Me} {v : Value} {B C : Nat → Nat} (h : MeC tm ta w FP p M v B C) (hs : w.heap.size ≤ w'.heap.size) (hk : ∀ k, FP k → w'.heap[k]? = w.heap[k]?) : MeC tm ta w' FP p M v B C :=
  ⟨(hk p h.fp).trans h.row, own_kept h.ars fun g hg => hk g (h.fv g hg), fun k hkn => own_kept (h.byt k hkn) fun g hg => hk g (by injection hg with hg; subst hg; exact h.fb k hkn), h.inj, h.fp, h.fv, h.fb, fun k hf => Nat.lt_of_lt_of_le (h.fl k hf) hs, h.ok⟩
theorem MeC.past {tm ta : TypeId} {w w' : World} {FP : Nat → Prop} {p : Nat} {M : Me} {v : Value} {B C : Nat → Nat} (h : MeC tm ta w FP p M v B C) (hb : Below w.heap.size w w') : MeC tm ta w' FP p M v B C :=
  h.kept hb.size fun k hf => hb.block k (h.fl k hf)
section
variable {tm ta : TypeId} {w : World} {FP : Nat → Prop} {p : Nat} {M : Me} {v : Value} {B C : Nat → Nat}
theorem MeC.small (h : MeC tm ta w FP p M v B C) : small M.A M.S M.n := ⟨h.ok.n16, fun j hj => by obtain ⟨a, b, c, _⟩ := h.ok.sz j hj; exact ⟨a, b, c⟩⟩
theorem MeC.area (h : MeC tm ta w FP p M v B C) {ab cap : Nat} (hv : v = .slice (some ⟨ab, 0, none⟩) M.n cap) : AreaAt w ab M.n M.A M.S M.W M.X B C := by
  subst hv
  intro j hj
  have hc := (own_cells h.ars).1
  exact ⟨hc _ _ (arL_at M B C j 0 (by decide) M.n hj), hc _ _ (arL_at M B C j 1 (by decide) M.n hj), hc _ _ (arL_at M B C j 2 (by decide) M.n hj), hc _ _ (arL_at M B C j 3 (by decide) M.n hj), hc _ _ (arL_at M B C j 4 (by decide) M.n hj)⟩
theorem MeC.cell (h : MeC tm ta w FP p M v B C) {k o : Nat} (hk : k < M.n) (ho : o < M.S k) : w.cell? ⟨B k, o, none⟩ = some (.int .u8 (M.y k o : Nat)) := (own_cells (h.byt k hk)).1 o _ (byL_at _ _ o ho)
theorem MeC.frz (h : MeC tm ta w FP p M v B C) {k : Nat} (o : Nat) (hk : k < M.n) : w.frozen? ⟨B k, o, none⟩ = false := (own_cells (h.byt k hk)).2 o
theorem MeC.cap (h : MeC tm ta w FP p M v B C) {k : Nat} (hk : k < M.n) : M.S k ≤ C k := own_cap (h.byt k hk)
theorem MeC.cv (h : MeC tm ta w FP p M v B C) : w.cell? ⟨p, 0, none⟩ = some v := by rw [cell_of_row w p 0 #[v] tm _ h.row]; rfl
theorem MeC.fz (h : MeC tm ta w FP p M v B C) : w.frozen? ⟨p, 0, none⟩ = false := frozen_of_row w p 0 #[v] tm h.row
end
set_option maxRecDepth 100000 in
set_option maxHeartbeats 2000000 in
theorem find_0 (a : Option Addr) (cap x : Nat) (w : World) : Calls Try.prog 53 #[.slice a 0 cap, .int .u64 x] w fun e w' => e = .returned (.pointer none) ∧ ∃ q, w' = w.drewN q := by
  go_enter Try.func53, Try.ntmps53
  go_wp2
  go_loopw [5, 8] (fun _ i wr => i = .int .i64 0 ∧ Hid (w = wr)) (fun _ i _ => 0)
  case atStart => exact ⟨rfl, Lib.hid rfl⟩
  case round =>
    obtain ⟨rfl, HW⟩ := hrel
    obtain rfl := HW.out
    go_wp2
    go_ret
    exact ⟨rfl, 0, rfl⟩
set_option maxRecDepth 100000 in
set_option maxHeartbeats 2000000 in
theorem stretch_0 (a : Option Addr) (cap x : Nat) (m : Int) (w : World) : Calls Try.prog 25 #[.slice a 0 cap, .int .u64 x, .int .i64 m] w fun e w' => e = .returned (.tuple #[.slice none 0 0, .bool false]) ∧ ∃ q, w' = w.drewN q := by
  go_enter Try.func25, Try.ntmps25
  go_wp2_with (go_at_call 53; refine (find_0 a cap x _).mono ?_; rintro e w' ⟨rfl, q, rfl⟩)
  go_quiet (fail)
  go_wp2
  refine bodyPost_ret (v := .tuple #[.slice none 0 0, .bool false]) (by simp [results, Try.results25, go_sem]) rfl ⟨rfl, _, World.drewN_drewN _ _ _⟩
theorem first_or_none (A S : Nat → Nat) (x : Nat) : ∀ n, (∃ k, k < n ∧ inA A S k x ∧ ∀ j, j < k → ¬ inA A S j x) ∨ (∀ j, j < n → ¬ inA A S j x) := by
  intro n
  induction n with
  | zero => exact .inr fun j hj => by omega
  | succ n ih =>
    rcases ih with ⟨k, h1, h2, h3⟩ | h
    · exact .inl ⟨k, by omega, h2, h3⟩
    · by_cases hn : inA A S n x
      · exact .inl ⟨n, by omega, hn, h⟩
      · refine .inr fun j hj => ?_
        rcases Nat.lt_or_ge j n with h1 | h1
        · exact h j h1
        · rw [show j = n by omega]; exact hn
/-- What stretch (133) tells. -/
theorem stretch_m (w : World) (FP : Nat → Prop) (p : Nat) (M : Me) (v : Value) (B C : Nat → Nat) (h : MeC 64 67 w FP p M v B C) (x : Nat) (hx : x < 18446744073709551616) (m : Int) (hm : m ≤ 9223372036854775807) :
    Calls Try.prog 25 #[v, .int .u64 x, .int .i64 m] w fun e w' => ((∃ k o K : Nat, Hs M x K k o ∧ m = K ∧ e = .returned (.tuple #[.slice (some ⟨B k, if K = 0 then 0 else o, none⟩) K K, .bool true])) ∨ ((∀ k o K : Nat, m = K → ¬ Hs M x K k o) ∧ e = .returned (.tuple #[.slice none 0 0, .bool false]))) ∧ ∃ q, w' = w.drewN q := by
  obtain ⟨a, cap, rfl, ha⟩ := own_form h.ars
  rcases ha with h0 | ⟨ab, rfl⟩
  · rw [h0]
    exact (stretch_0 a cap x m w).mono fun e w' g => ⟨.inr ⟨fun k o K _ hs => by have := hs.1; omega, g.1⟩, g.2⟩
  · have har := Lib.hid (h.area rfl)
    rcases first_or_none M.A M.S x M.n with ⟨k, hk, hin, hpre⟩ | hno
    · have hin' := hin
      unfold inA at hin'
      obtain ⟨o, ho⟩ : ∃ o, x = M.A k + o := ⟨x - M.A k, by omega⟩
      by_cases hfit : 0 ≤ m ∧ (o : Int) + m ≤ M.S k
      · obtain ⟨K, rfl⟩ := Int.eq_ofNat_of_zero_le hfit.1
        by_cases hK : K = 0
        · subst hK
          exact (stretch_z ab M.n cap k o x M.A M.S M.W M.X B C w h.small hk hpre (Lib.hid ho) (by omega) (h.cap hk) har).mono fun e w' g => ⟨.inl ⟨k, o, 0, ⟨hk, ho, by omega, by omega⟩, rfl, g.1⟩, g.2⟩
        · refine (stretch_y ab M.n cap k o K x M.A M.S M.W M.X B C w h.small hk hpre (Lib.hid ho) (by omega) (h.cap hk) (by omega) har).mono fun e w' g => ⟨.inl ⟨k, o, K, ⟨hk, ho, by omega, by omega⟩, rfl, ?_⟩, g.2⟩
          rw [if_neg hK]
          exact g.1
      · refine (stretch_s ab M.n cap k o x m M.A M.S M.W M.X B C w h.small hk hpre (Lib.hid ho) (by omega) (by omega) hm har).mono fun e w' g => ⟨.inr ⟨fun k' o' K hK hs => ?_, g.1⟩, g.2⟩
        obtain ⟨e1, e2⟩ := Hs.uniq h.ok (show Hs M x 0 k o from ⟨hk, ho, by omega, by omega⟩) hs
        subst e1 e2
        have := hs.2.2.2
        omega
    · refine (stretch_n ab M.n cap x m M.A M.S M.W M.X B C w h.small hx hno har).mono fun e w' g => ⟨.inr ⟨fun k o K hK hs => ?_, g.1⟩, g.2⟩
      refine hno k hs.1 ?_
      have h1 := hs.2.1
      have h2 := hs.2.2.1
      unfold inA
      omega
end Go.Proofs.Ytjcbhomfggjmhaa.Mm
