import Derived.Test.YthgpolddbadfmaaVb
namespace Go.Proofs.Ythgpolddbadfmaa
open Go.ChangeShapes Go.WideShapes Go.ChangeAt Go.RowKit Go.Maps
set_option linter.unusedVariables false
theorem info5 : (Try.prog.info? 5).map (fun i => (i.zero, i.size, i.bytes)) = some (some (.int .u8 0), 1, 1) := by kernel_rfl
/-- A word's bytes. -/
def b4 (v : Int) (j : Nat) : Int := v / 256 ^ j % 256
theorem b4_vals (v : Int) (h : 0 ≤ v ∧ v < 4294967296) : b4 v 0 = v % 256 ∧ b4 v 1 = v / 256 % 256 ∧ b4 v 2 = v / 65536 % 256 ∧ b4 v 3 = v / 16777216 := by
  have e3 : v / 16777216 % 256 = v / 16777216 := by omega
  exact ⟨by show v / 1 % 256 = _; rw [Int.ediv_one], rfl, rfl, e3⟩
def bs (F : Nat → In) (k : Nat) : List Value := (List.range (4 * k)).map fun q => .int .u8 (b4 (F (q / 4)).w (q % 4))
theorem bs_succ (F : Nat → In) (k : Nat) : bs F (k + 1) = bs F k ++ [.int .u8 (b4 (F k).w 0), .int .u8 (b4 (F k).w 1), .int .u8 (b4 (F k).w 2), .int .u8 (b4 (F k).w 3)] := by
  have e0 : (4 * k) / 4 = k := by omega
  have e1 : (4 * k + 1) / 4 = k := by omega
  have e2 : (4 * k + 2) / 4 = k := by omega
  have e3 : (4 * k + 3) / 4 = k := by omega
  have f0 : (4 * k) % 4 = 0 := by omega
  have f1 : (4 * k + 1) % 4 = 1 := by omega
  have f2 : (4 * k + 2) % 4 = 2 := by omega
  have f3 : (4 * k + 3) % 4 = 3 := by omega
  unfold bs
  rw [show 4 * (k + 1) = 4 * k + 1 + 1 + 1 + 1 from by omega, List.range_succ, List.range_succ, List.range_succ, List.range_succ]
  simp only [List.map_append, List.map_cons, List.map_nil, e0, e1, e2, e3, f0, f1, f2, f3, List.append_assoc, List.cons_append, List.nil_append]
theorem ws_get (F : Nat → In) (n p : Nat) (h : p < n) : (ws F n)[p]? = some (.int .u32 (F p).w) := by
  unfold ws
  rw [List.getElem?_map, List.getElem?_range h]; rfl
theorem rows_of {w : World} {g n cp base size : Nat} {e : TypeId} {xs : List Value} (h : w.ownsRow base e size (.slice (some ⟨g, 0, none⟩) n cp) n xs) : base ≤ g ∧ n ≤ cp ∧ (∀ p u, xs[p]? = some u → w.cell? ⟨g, p, none⟩ = some u) ∧ (∀ p, w.frozen? ⟨g, p, none⟩ = false) := by
  rcases h.2 with ⟨h1, _⟩ | ⟨g', cap, cur, hv, hb, hg, hn, hm, hs, ht⟩
  · cases h1
  · injection hv with h1 h2 h3
    injection h1 with h1
    injection h1 with h1
    subst h1 h3
    refine ⟨hb, hn, fun p u hu => ?_, fun p => frozen_of_row w g p cur e hg⟩
    rw [cell_of_row w g p cur e _ hg]
    rw [← ht] at hu
    have hp := (List.getElem?_eq_some_iff.1 hu).1
    rw [List.getElem?_take] at hu
    split at hu
    · simpa using hu
    · cases hu
theorem cells4 (w : World) (a b c d : Value) (e : TypeId) : ∀ j u, [a, b, c, d][j]? = some u → (w.alloc (.cells #[a, b, c, d] e)).cell? ((⟨w.heap.size, 0, none⟩ : Addr).add j) = some u := by
  intro j u hu
  have hj : j < 4 := by
    have := (List.getElem?_eq_some_iff.1 hu).1
    simpa using this
  have hs : (w.alloc (.cells #[a, b, c, d] e)).heap[w.heap.size]? = some (.cells #[a, b, c, d] e (0, 0)) := heap_alloc_new w _
  have ha : (⟨w.heap.size, 0, none⟩ : Addr).add j = ⟨w.heap.size, j, none⟩ := by unfold Addr.add; split <;> simp_all
  rw [ha]
  have : j = 0 ∨ j = 1 ∨ j = 2 ∨ j = 3 := by omega
  rcases this with rfl | rfl | rfl | rfl
  all_goals (simp at hu; subst hu; unfold World.cell?; simp only [hs]; rfl)
theorem _root_.Go.World.ownsRow.mono_base {w : World} {b b' size n : Nat} {e : TypeId} {v : Value} {xs : List Value} (h : w.ownsRow b e size v n xs) (hb : b' ≤ b) : w.ownsRow b' e size v n xs := by
  refine ⟨h.1, ?_⟩
  rcases h.2 with h1 | ⟨g, cap, cur, hv, hbg, hr⟩
  · exact .inl h1
  · exact .inr ⟨g, cap, cur, hv, Nat.le_trans hb hbg, hr⟩
theorem one8 (a b c d : Int) : ∀ u ∈ [Value.int .u8 a, .int .u8 b, .int .u8 c, .int .u8 d], u.oneCell' = true := by intro u hu; simp at hu; rcases hu with rfl | rfl | rfl | rfl <;> rfl
def BytesP (F : Nat → In) (n : Nat) (w : World) (r : Ending) (w' : World) : Prop :=
  ((good F n ∧ ∃ g, w.heap.size ≤ g ∧ r = .returned (.tuple #[.slice (some ⟨g, 0, none⟩) (4 * n) (4 * n), .int .i64 0]) ∧ w'.ownsRow w.heap.size 5 1 (.slice (some ⟨g, 0, none⟩) (4 * n) (4 * n)) (4 * n) (bs F n)) ∨
   (¬ good F n ∧ r = .returned (.tuple #[.slice none 0 0, .int .i64 1]))) ∧ Below w.heap.size w w'
set_option maxRecDepth 100000 in
set_option maxHeartbeats 4000000 in
theorem bytes_c (A : Option Addr) (n cap : Nat) (F : Nat → In) (w : World) (n2 : n ≤ 400) (HS : Hid (SrcI w A n F)) :
    Calls Try.prog 15 #[.slice A n cap] w (BytesP F n w) := by
  obtain ⟨i0, hi, hz0, hz1, hz2⟩ := info_parts info5
  go_enter Try.func15, Try.ntmps15
  go_wp2_with fail
  refine (words_c A n cap F w n2 HS).mono ?_
  rintro r w1 ⟨⟨HG, rfl, hown⟩ | ⟨HG, rfl⟩, hb⟩
  · have HO1 := Lib.hid hown
    have HB1 := Lib.hid hb
    have HG1 := Lib.hid HG
    clear hown hb HG
    obtain ⟨g, hg⟩ : ∃ g, g = w.heap.size := ⟨_, rfl⟩
    go_wp2_with (at_make; refine wpList_make_own _ rfl _ _ 37 rfl w1.heap.size 5 i0 _ 1 Try.underlying37 hi hz0 hz1 _ _ _ (4 * n) rfl rfl (by go_num) (by rw [hz2]; omega) (by unfold maxLen; omega) (Nat.le_refl _) ?_)
    intro w2 hown hgrow
    have HO2 := Lib.hid hown
    have HB2 := Lib.hid (below_made hgrow)
    have HW := Lib.hid (rows_of HO1.out).2.2.1
    have hl1 : w.heap.size < w1.heap.size := row_lt HO1.out
    clear hown hgrow hg
    go_wp2
    go_loopw [6, 8, 23] (fun v x ix wr => ∃ k : Nat, k ≤ n ∧ ix = .int .i64 k ∧ v = .slice (some ⟨w1.heap.size, 0, none⟩) (4 * k) (4 * n) ∧ Hid (wr.ownsRow w1.heap.size 5 1 (.slice (some ⟨w1.heap.size, 0, none⟩) (4 * k) (4 * n)) (4 * k) (bs F k)) ∧ Hid (Below w1.heap.size w1 wr)) (fun _ _ ix _ => n - (intOf ix).toNat)
    case atStart => exact ⟨0, Nat.zero_le _, rfl, rfl, HO2, HB2⟩
    case round =>
      obtain ⟨k, hk, rfl, rfl, HO, HB⟩ := hrel
      by_cases hlt : k < n
      · have c0 : wr.cell? ⟨w.heap.size, k, none⟩ = some (.int .u32 (F k).w) := (HB.out.cell (p := ⟨w.heap.size, k, none⟩) hl1).trans (HW.out k _ (ws_get F n k hlt))
        have hr := (F k).w_range
        have hm3 : 4 * k + 4 ≤ 4 * n := by omega
        obtain ⟨x, hx⟩ : ∃ x, x = (F k).w := ⟨_, rfl⟩
        rw [← hx] at c0 hr
        have HX := Lib.hid hx
        clear hx
        obtain ⟨v0, v1, v2, v3⟩ := b4_vals x hr
        have HV : Hid (bs F (k + 1) = bs F k ++ [.int .u8 (x % 256), .int .u8 (x / 256 % 256), .int .u8 (x / 65536 % 256), .int .u8 (x / 16777216)]) := Lib.hid (by rw [bs_succ, ← HX.out, v0, v1, v2, v3])
        clear v0 v1 v2 v3
        go_wp2_with (at_builtin; refine wpList_append_fits _ rfl _ _ 37 rfl w1.heap.size 5 i0 1 Try.underlying37 hi hz1 w1.heap.size (4 * k) (4 * n) (bs F k) rfl (row_past HO.out ((Below.refl _ _).alloc (Nat.le_refl _) _)) ⟨wr.heap.size, 0, none⟩ 4 4 [.int .u8 (x % 256), .int .u8 (x / 256 % 256), .int .u8 (x / 65536 % 256), .int .u8 (x / 16777216)] rfl rfl (cells4 _ _ _ _ _ _) (one8 _ _ _ _) hm3 ?_)
        intro w4 hown' hgrow
        have HO4 : Hid (w4.ownsRow w1.heap.size 5 1 (.slice (some ⟨w1.heap.size, 0, none⟩) (4 * (k + 1)) (4 * n)) (4 * (k + 1)) (bs F (k + 1))) := Lib.hid (by rw [HV.out]; exact hown')
        have HB4 : Hid (Below w1.heap.size w1 w4) := Lib.hid ((HB.out.alloc HB.out.size _).trans (below_grown hgrow (Nat.le_refl _) (by have := HB.out.size; simp; omega)))
        clear hown' hgrow
        go_wp2
        go_roundw
        case rel => exact ⟨k + 1, by omega, by go_num, rfl, HO4, HB4⟩
        case measure => simp [intOf]; omega
      · obtain rfl : k = n := by omega
        have HO5 := Lib.hid (HO.out.mono_base (Nat.le_of_lt hl1))
        go_wp2
        go_ret2
        exact ⟨.inl ⟨HG1.out, w1.heap.size, Nat.le_of_lt hl1, rfl, HO5.out⟩, HB1.out.trans (HB.out.mono HB1.out.size)⟩
  · have HN := Lib.hid HG
    have HB1 := Lib.hid hb
    clear HG hb
    go_wp2
    go_ret2
    exact ⟨.inr ⟨HN.out, rfl⟩, HB1.out⟩
end Go.Proofs.Ythgpolddbadfmaa
