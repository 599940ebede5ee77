import Derived.Test.YtpiafgmncfibmaaRk
import Derived.Test.YtpiafgmncfibmaaCv
import Derived.Test.YtpiafgmncfibmaaRows
import Derived.WalkKit
import Derived.ProofKit
import Derived.OpenShut
import Derived.Deep.QuietTactic
import Derived.BigQuiet
import Derived.Outline
import Derived.WalkSmall
import Derived.WalkLawsBesides
import Derived.WalkSpells
import Derived.BigGuardPart
import Derived.RegionTactic
import Derived.Deep.RegionHeld3
import Derived.Lib.Hide
import Derived.Deep.MidRow
import Derived.Below
import Derived.Deep.RegionWith
import Derived.Deep.OwnRows
import Derived.Deep.AppendLies
namespace Go.Proofs.Ytpiafgmncfibmaa
open Go.ChangeShapes Go.WideShapes Go.ChangeAt Go.RowKit
set_option linter.unusedVariables false

/-- The cells of n elements of one cell. -/
def els1 (n : Nat) (F : Nat → Value) : List Value := (List.range n).map F
def els2 (n : Nat) (F G : Nat → Value) : List Value := (List.range n).flatMap fun i => [F i, G i]
theorem els1_len (n : Nat) (F : Nat → Value) : (els1 n F).length = n * 1 := by unfold els1; simp
theorem els1_at {n j : Nat} (F : Nat → Value) (h : j < n) : (els1 n F)[j]? = some (F j) := by unfold els1; rw [List.getElem?_map, List.getElem?_range h]; rfl
theorem els1_one (n : Nat) (F : Nat → Value) (h : ∀ i, (F i).oneCell' = true) : ∀ u ∈ els1 n F, u.oneCell' = true := fun u hu => by
  obtain ⟨i, _, rfl⟩ := List.mem_map.1 hu
  exact h i
theorem els2_succ (n : Nat) (F G : Nat → Value) : els2 (n + 1) F G = els2 n F G ++ [F n, G n] := by unfold els2; rw [List.range_succ, List.flatMap_append]; simp
theorem els2_len (n : Nat) (F G : Nat → Value) : (els2 n F G).length = n * 2 := by
  induction n with
  | zero => rfl
  | succ n ih => rw [els2_succ, List.length_append, ih]; simp; omega
theorem els2_at {n j : Nat} {F G : Nat → Value} {u : Value} (h : (els2 n F G)[j]? = some u) : (∃ i, i < n ∧ j = i * 2 ∧ u = F i) ∨ (∃ i, i < n ∧ j = i * 2 + 1 ∧ u = G i) := by
  induction n with
  | zero => simp [els2] at h
  | succ n ih =>
    rw [els2_succ, List.getElem?_append, els2_len] at h
    split at h
    · rcases ih h with ⟨i, a, b, c⟩ | ⟨i, a, b, c⟩
      · exact .inl ⟨i, by omega, b, c⟩
      · exact .inr ⟨i, by omega, b, c⟩
    · have hj := (List.getElem?_eq_some_iff.1 h).1
      simp at hj
      rename_i hge
      have : j - n * 2 = 0 ∨ j - n * 2 = 1 := by omega
      rcases this with e | e
      · rw [e] at h
        simp at h
        exact .inl ⟨n, by omega, by omega, h.symm⟩
      · rw [e] at h
        simp at h
        exact .inr ⟨n, by omega, by omega, h.symm⟩
theorem els2_get {n i : Nat} (F G : Nat → Value) (hi : i < n) : (els2 n F G)[i * 2]? = some (F i) ∧ (els2 n F G)[i * 2 + 1]? = some (G i) := by
  induction n with
  | zero => omega
  | succ n ih =>
    rw [els2_succ]
    by_cases h : i < n
    · obtain ⟨a, b⟩ := ih h
      exact ⟨by rw [List.getElem?_append_left (by rw [els2_len]; omega)]; exact a, by rw [List.getElem?_append_left (by rw [els2_len]; omega)]; exact b⟩
    · obtain rfl : i = n := by omega
      exact ⟨by rw [List.getElem?_append_right (by rw [els2_len]; omega), els2_len, Nat.sub_self]; rfl, by rw [List.getElem?_append_right (by rw [els2_len]; omega), els2_len, Nat.add_sub_cancel_left]; rfl⟩
theorem els2_one (n : Nat) (F G : Nat → Value) (h : ∀ i, (F i).oneCell' = true) (h' : ∀ i, (G i).oneCell' = true) : ∀ u ∈ els2 n F G, u.oneCell' = true := fun u hu => by
  obtain ⟨i, _, hi⟩ := List.mem_flatMap.1 hu
  simp at hi
  rcases hi with rfl | rfl
  · exact h i
  · exact h' i
theorem own_slice {w : World} {B e s n : Nat} {v : Value} {xs : List Value} (h : w.ownsRow B e s v n xs) : ∃ a c, v = .slice a n c := by
  rcases h.2 with ⟨rfl, rfl⟩ | ⟨g, cap, cur, rfl, _⟩
  · exact ⟨_, _, rfl⟩
  · exact ⟨_, _, rfl⟩
def CloneR (e s n : Nat) (xs : List Value) (w : World) (en : Ending) (w' : World) : Prop := ∃ a' c', en = .returned (.slice a' n c') ∧ w'.ownsRow w.heap.size e s (.slice a' n c') n xs ∧ Below w.heap.size w w'

theorem info2x : (Try.prog.info? 2).map (fun i => (i.zero, i.size, i.bytes)) = some (some (.int .i64 0), 1, 8) := by kernel_rfl
set_option maxHeartbeats 2000000 in
theorem clone51_c (a : Option Addr) (n c : Nat) (F : Nat → Int) (w : World) (hn : n * 8 ≤ Big) (hr : Row1 w a n (fun i => .int .i64 (F i))) :
    Calls Try.prog 51 #[.slice a n c] w (CloneR 2 1 n (els1 n (fun i => .int .i64 (F i))) w) := by
  unfold Big at hn
  obtain ⟨i0, hi, hz0, hz1, hz2⟩ := info_parts info2x
  cases a with
  | none =>
    have h0 : n = 0 := by
      rcases hr with h | ⟨b, o, h, _⟩
      · exact h
      · cases h
    subst h0
    have hnil := fun W => Lib.run_eql_slice_nil (P := Try.prog) W 22 2 none 0 c 0 0 Try.underlying22
    clear hr hi hz0 hz1 hz2
    go_enter Try.func51, Try.ntmps51
    go_wp2
    go_ret
    exact ⟨none, 0, rfl, ⟨rfl, .inl ⟨rfl, rfl⟩⟩, Below.refl _ _⟩
  | some ad =>
    have hown : (w.alloc (.cells #[] 2)).ownsRow w.heap.size 2 1 (.slice (some ⟨w.heap.size, 0, none⟩) 0 0) 0 [] := World.ownsRow_made w #[] 0 (Nat.le_refl _) (by unfold maxLen; omega) rfl
    have HO := Lib.hid hown
    have HL : Hid ((els1 n (fun i => .int .i64 (F i))).length = n * 1) := Lib.hid (els1_len ..)
    have HN : Hid (∀ j u, (els1 n (fun i => .int .i64 (F i)))[j]? = some u → (w.alloc (.cells #[] 2)).cell? (ad.add j) = some u) := Lib.hid fun j u hu => by
      have hj := (List.getElem?_eq_some_iff.1 hu).1
      rcases hr with h | ⟨b, o, h, hb, hc⟩
      · subst h
        rw [els1_len, Nat.zero_mul] at hj
        exact absurd hj (Nat.not_lt_zero j)
      · obtain rfl := Option.some.inj h
        have h1 : j < n := by rw [els1_len, Nat.mul_one] at hj; exact hj
        rw [els1_at _ h1] at hu
        obtain rfl := Option.some.inj hu
        rw [Addr.add_lit, World.cell?_alloc_past _ _ _ hb]
        exact hc j h1
    have H1 : Hid (∀ u ∈ (els1 n (fun i => .int .i64 (F i))), u.oneCell' = true) := Lib.hid (els1_one _ _ (fun i => rfl))
    have hnil := fun W => Lib.run_eql_slice_nil (P := Try.prog) W 22 2 (some ad) n c 0 0 Try.underlying22
    clear hown hr
    go_enter Try.func51, Try.ntmps51
    go_wp2_with (at_builtin; refine wpList_append_own _ rfl _ _ 22 rfl w.heap.size 2 i0 _ 1 8 Try.underlying22 hi hz0 hz1 hz2 rfl (by decide) _ 0 [] rfl HO.out ad n c (els1 n (fun i => .int .i64 (F i))) rfl HL.out HN.out H1.out (by unfold maxLen; omega) (by omega) (by simp) ?_)
    intro v' w1 hown1 hgrow hne
    try rw [Nat.zero_add] at hown1
    try rw [List.nil_append] at hown1
    obtain ⟨a', c', rfl⟩ := own_slice hown1
    have HW := Lib.hid hown1
    have HB : Hid (Below w.heap.size w w1) := Lib.hid (((Below.refl _ _).alloc (Nat.le_refl _) _).trans ⟨hgrow.os, hgrow.tape, hgrow.output, hgrow.size, fun x hx => hgrow.block x (by simp; omega) (by simp [Value.ownBlock]; omega)⟩)
    clear hown1 hgrow hne
    go_wp2
    go_ret
    exact ⟨a', c', rfl, HW.out, HB.out⟩

theorem info3x : (Try.prog.info? 3).map (fun i => (i.zero, i.size, i.bytes)) = some (some (.int .i64 0), 1, 8) := by kernel_rfl
set_option maxHeartbeats 2000000 in
theorem clone53_c (a : Option Addr) (n c : Nat) (F : Nat → Int) (w : World) (hn : n * 8 ≤ Big) (hr : Row1 w a n (fun i => .int .i64 (F i))) :
    Calls Try.prog 53 #[.slice a n c] w (CloneR 3 1 n (els1 n (fun i => .int .i64 (F i))) w) := by
  unfold Big at hn
  obtain ⟨i0, hi, hz0, hz1, hz2⟩ := info_parts info3x
  cases a with
  | none =>
    have h0 : n = 0 := by
      rcases hr with h | ⟨b, o, h, _⟩
      · exact h
      · cases h
    subst h0
    have hnil := fun W => Lib.run_eql_slice_nil (P := Try.prog) W 48 3 none 0 c 0 0 Try.underlying48
    clear hr hi hz0 hz1 hz2
    go_enter Try.func53, Try.ntmps53
    go_wp2
    go_ret
    exact ⟨none, 0, rfl, ⟨rfl, .inl ⟨rfl, rfl⟩⟩, Below.refl _ _⟩
  | some ad =>
    have hown : (w.alloc (.cells #[] 3)).ownsRow w.heap.size 3 1 (.slice (some ⟨w.heap.size, 0, none⟩) 0 0) 0 [] := World.ownsRow_made w #[] 0 (Nat.le_refl _) (by unfold maxLen; omega) rfl
    have HO := Lib.hid hown
    have HL : Hid ((els1 n (fun i => .int .i64 (F i))).length = n * 1) := Lib.hid (els1_len ..)
    have HN : Hid (∀ j u, (els1 n (fun i => .int .i64 (F i)))[j]? = some u → (w.alloc (.cells #[] 3)).cell? (ad.add j) = some u) := Lib.hid fun j u hu => by
      have hj := (List.getElem?_eq_some_iff.1 hu).1
      rcases hr with h | ⟨b, o, h, hb, hc⟩
      · subst h
        rw [els1_len, Nat.zero_mul] at hj
        exact absurd hj (Nat.not_lt_zero j)
      · obtain rfl := Option.some.inj h
        have h1 : j < n := by rw [els1_len, Nat.mul_one] at hj; exact hj
        rw [els1_at _ h1] at hu
        obtain rfl := Option.some.inj hu
        rw [Addr.add_lit, World.cell?_alloc_past _ _ _ hb]
        exact hc j h1
    have H1 : Hid (∀ u ∈ (els1 n (fun i => .int .i64 (F i))), u.oneCell' = true) := Lib.hid (els1_one _ _ (fun i => rfl))
    have hnil := fun W => Lib.run_eql_slice_nil (P := Try.prog) W 48 3 (some ad) n c 0 0 Try.underlying48
    clear hown hr
    go_enter Try.func53, Try.ntmps53
    go_wp2_with (at_builtin; refine wpList_append_own _ rfl _ _ 48 rfl w.heap.size 3 i0 _ 1 8 Try.underlying48 hi hz0 hz1 hz2 rfl (by decide) _ 0 [] rfl HO.out ad n c (els1 n (fun i => .int .i64 (F i))) rfl HL.out HN.out H1.out (by unfold maxLen; omega) (by omega) (by simp) ?_)
    intro v' w1 hown1 hgrow hne
    try rw [Nat.zero_add] at hown1
    try rw [List.nil_append] at hown1
    obtain ⟨a', c', rfl⟩ := own_slice hown1
    have HW := Lib.hid hown1
    have HB : Hid (Below w.heap.size w w1) := Lib.hid (((Below.refl _ _).alloc (Nat.le_refl _) _).trans ⟨hgrow.os, hgrow.tape, hgrow.output, hgrow.size, fun x hx => hgrow.block x (by simp; omega) (by simp [Value.ownBlock]; omega)⟩)
    clear hown1 hgrow hne
    go_wp2
    go_ret
    exact ⟨a', c', rfl, HW.out, HB.out⟩

theorem info5x : (Try.prog.info? 5).map (fun i => (i.zero, i.size, i.bytes)) = some (some (.int .u8 0), 1, 1) := by kernel_rfl
set_option maxHeartbeats 2000000 in
theorem clone54_c (a : Option Addr) (n c : Nat) (F : Nat → Int) (w : World) (hn : n * 1 ≤ Big) (hr : Row1 w a n (fun i => .int .u8 (F i))) :
    Calls Try.prog 54 #[.slice a n c] w (CloneR 5 1 n (els1 n (fun i => .int .u8 (F i))) w) := by
  unfold Big at hn
  obtain ⟨i0, hi, hz0, hz1, hz2⟩ := info_parts info5x
  cases a with
  | none =>
    have h0 : n = 0 := by
      rcases hr with h | ⟨b, o, h, _⟩
      · exact h
      · cases h
    subst h0
    have hnil := fun W => Lib.run_eql_slice_nil (P := Try.prog) W 29 5 none 0 c 0 0 Try.underlying29
    clear hr hi hz0 hz1 hz2
    go_enter Try.func54, Try.ntmps54
    go_wp2
    go_ret
    exact ⟨none, 0, rfl, ⟨rfl, .inl ⟨rfl, rfl⟩⟩, Below.refl _ _⟩
  | some ad =>
    have hown : (w.alloc (.cells #[] 5)).ownsRow w.heap.size 5 1 (.slice (some ⟨w.heap.size, 0, none⟩) 0 0) 0 [] := World.ownsRow_made w #[] 0 (Nat.le_refl _) (by unfold maxLen; omega) rfl
    have HO := Lib.hid hown
    have HL : Hid ((els1 n (fun i => .int .u8 (F i))).length = n * 1) := Lib.hid (els1_len ..)
    have HN : Hid (∀ j u, (els1 n (fun i => .int .u8 (F i)))[j]? = some u → (w.alloc (.cells #[] 5)).cell? (ad.add j) = some u) := Lib.hid fun j u hu => by
      have hj := (List.getElem?_eq_some_iff.1 hu).1
      rcases hr with h | ⟨b, o, h, hb, hc⟩
      · subst h
        rw [els1_len, Nat.zero_mul] at hj
        exact absurd hj (Nat.not_lt_zero j)
      · obtain rfl := Option.some.inj h
        have h1 : j < n := by rw [els1_len, Nat.mul_one] at hj; exact hj
        rw [els1_at _ h1] at hu
        obtain rfl := Option.some.inj hu
        rw [Addr.add_lit, World.cell?_alloc_past _ _ _ hb]
        exact hc j h1
    have H1 : Hid (∀ u ∈ (els1 n (fun i => .int .u8 (F i))), u.oneCell' = true) := Lib.hid (els1_one _ _ (fun i => rfl))
    have hnil := fun W => Lib.run_eql_slice_nil (P := Try.prog) W 29 5 (some ad) n c 0 0 Try.underlying29
    clear hown hr
    go_enter Try.func54, Try.ntmps54
    go_wp2_with (at_builtin; refine wpList_append_own _ rfl _ _ 29 rfl w.heap.size 5 i0 _ 1 1 Try.underlying29 hi hz0 hz1 hz2 rfl (by decide) _ 0 [] rfl HO.out ad n c (els1 n (fun i => .int .u8 (F i))) rfl HL.out HN.out H1.out (by unfold maxLen; omega) (by omega) (by simp) ?_)
    intro v' w1 hown1 hgrow hne
    try rw [Nat.zero_add] at hown1
    try rw [List.nil_append] at hown1
    obtain ⟨a', c', rfl⟩ := own_slice hown1
    have HW := Lib.hid hown1
    have HB : Hid (Below w.heap.size w w1) := Lib.hid (((Below.refl _ _).alloc (Nat.le_refl _) _).trans ⟨hgrow.os, hgrow.tape, hgrow.output, hgrow.size, fun x hx => hgrow.block x (by simp; omega) (by simp [Value.ownBlock]; omega)⟩)
    clear hown1 hgrow hne
    go_wp2
    go_ret
    exact ⟨a', c', rfl, HW.out, HB.out⟩

theorem info47x : (Try.prog.info? 47).map (fun i => (i.zero, i.size, i.bytes)) = some (some (.agg #[.int .i64 0, .bool false]), 2, 16) := by kernel_rfl
set_option maxHeartbeats 2000000 in
theorem clone52_c (a : Option Addr) (n c : Nat) (F : Nat → Int) (X : Nat → Bool) (w : World) (hn : n * 16 ≤ Big) (hr : Row2 w a n (fun i => .int .i64 (F i)) (fun i => .bool (X i))) :
    Calls Try.prog 52 #[.slice a n c] w (CloneR 47 2 n (els2 n (fun i => .int .i64 (F i)) (fun i => .bool (X i))) w) := by
  unfold Big at hn
  obtain ⟨i0, hi, hz0, hz1, hz2⟩ := info_parts info47x
  cases a with
  | none =>
    have h0 : n = 0 := by
      rcases hr with h | ⟨b, o, h, _⟩
      · exact h
      · cases h
    subst h0
    have hnil := fun W => Lib.run_eql_slice_nil (P := Try.prog) W 45 47 none 0 c 0 0 Try.underlying45
    clear hr hi hz0 hz1 hz2
    go_enter Try.func52, Try.ntmps52
    go_wp2
    go_ret
    exact ⟨none, 0, rfl, ⟨rfl, .inl ⟨rfl, rfl⟩⟩, Below.refl _ _⟩
  | some ad =>
    have hown : (w.alloc (.cells #[] 47)).ownsRow w.heap.size 47 2 (.slice (some ⟨w.heap.size, 0, none⟩) 0 0) 0 [] := World.ownsRow_made w #[] 0 (Nat.le_refl _) (by unfold maxLen; omega) rfl
    have HO := Lib.hid hown
    have HL : Hid ((els2 n (fun i => .int .i64 (F i)) (fun i => .bool (X i))).length = n * 2) := Lib.hid (els2_len ..)
    have HN : Hid (∀ j u, (els2 n (fun i => .int .i64 (F i)) (fun i => .bool (X i)))[j]? = some u → (w.alloc (.cells #[] 47)).cell? (ad.add j) = some u) := Lib.hid fun j u hu => by
      have hj := (List.getElem?_eq_some_iff.1 hu).1
      rcases hr with h | ⟨b, o, h, hb, hc⟩
      · subst h
        rw [els2_len, Nat.zero_mul] at hj
        exact absurd hj (Nat.not_lt_zero j)
      · obtain rfl := Option.some.inj h
        rw [els2_len] at hj
        rw [Addr.add_lit, World.cell?_alloc_past _ _ _ hb]
        rcases els2_at hu with ⟨i, hi, rfl, rfl⟩ | ⟨i, hi, rfl, rfl⟩
        · exact (hc i hi).1
        · exact (hc i hi).2
    have H1 : Hid (∀ u ∈ (els2 n (fun i => .int .i64 (F i)) (fun i => .bool (X i))), u.oneCell' = true) := Lib.hid (els2_one _ _ _ (fun i => rfl) (fun i => rfl))
    have hnil := fun W => Lib.run_eql_slice_nil (P := Try.prog) W 45 47 (some ad) n c 0 0 Try.underlying45
    clear hown hr
    go_enter Try.func52, Try.ntmps52
    go_wp2_with (at_builtin; refine wpList_append_own _ rfl _ _ 45 rfl w.heap.size 47 i0 _ 2 16 Try.underlying45 hi hz0 hz1 hz2 rfl (by decide) _ 0 [] rfl HO.out ad n c (els2 n (fun i => .int .i64 (F i)) (fun i => .bool (X i))) rfl HL.out HN.out H1.out (by unfold maxLen; omega) (by omega) (by simp) ?_)
    intro v' w1 hown1 hgrow hne
    try rw [Nat.zero_add] at hown1
    try rw [List.nil_append] at hown1
    obtain ⟨a', c', rfl⟩ := own_slice hown1
    have HW := Lib.hid hown1
    have HB : Hid (Below w.heap.size w w1) := Lib.hid (((Below.refl _ _).alloc (Nat.le_refl _) _).trans ⟨hgrow.os, hgrow.tape, hgrow.output, hgrow.size, fun x hx => hgrow.block x (by simp; omega) (by simp [Value.ownBlock]; omega)⟩)
    clear hown1 hgrow hne
    go_wp2
    go_ret
    exact ⟨a', c', rfl, HW.out, HB.out⟩
end Go.Proofs.Ytpiafgmncfibmaa
