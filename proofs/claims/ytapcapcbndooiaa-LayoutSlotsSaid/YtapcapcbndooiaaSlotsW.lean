import Derived.Test.YtapcapcbndooiaaRows
import Derived.WalkKit
import Derived.ProofKit
import Derived.OpenShut
import Derived.Deep.QuietTactic
import Derived.BigQuiet
import Derived.Outline
import Derived.WalkSmall
import Derived.Test.YtapcapcbndooiaaLay
import Derived.Lib.Hide
namespace Go.Proofs.Ytapcapcbndooiaa
open Go.ChangeShapes Go.WideShapes Go.ChangeAt Go.RowKit
set_option linter.unusedVariables false
theorem blk_lt {w : World} {b o : Nat} {v : Value} (h : w.cell? ⟨b, o, none⟩ = some v) : b < w.heap.size := by
  rcases Nat.lt_or_ge b w.heap.size with h1 | h1
  · exact h1
  · have : w.heap[b]? = none := by simp [h1]
    simp [World.cell?, this] at h
theorem info3 : (Try.prog.info? 3).map (fun i => (i.zero, i.size, i.bytes)) = some (some (.int .i64 0), 1, 8) := by kernel_rfl
def nS (z : Int) : Int := if z.tmod 50 < 0 then 0 - z.tmod 50 else z.tmod 50
theorem tmod50 (z : Int) : -50 < z.tmod 50 ∧ z.tmod 50 < 50 := by
  have h : (z.tmod 50).natAbs < 50 := by rw [Int.natAbs_tmod]; exact Nat.mod_lt _ (by decide)
  omega
theorem nS_range (z : Int) : 0 ≤ nS z ∧ nS z < 50 := by have := tmod50 z; unfold nS; split <;> omega
def pS (zs : List Int) : Nat → Int
  | 0 => 1
  | i + 1 => pS zs i + 3 + nS (zs.getD i 0)
theorem pS_range (zs : List Int) : ∀ i, 1 ≤ pS zs i ∧ pS zs i ≤ 1 + 52 * (i : Int)
  | 0 => by simp [pS]
  | i + 1 => by have h := pS_range zs i; have n := nS_range (zs.getD i 0); unfold pS; omega
def rowP (zs : List Int) (k : Nat) : List Value := (List.range k).map (fun j => .int .i64 (pS zs j))
theorem rowP_succ (zs : List Int) (k : Nat) : rowP zs (k + 1) = rowP zs k ++ [.int .i64 (pS zs k)] := by simp [rowP, List.range_succ]
theorem rowP_get (zs : List Int) (k j : Nat) (h : j < k) : (rowP zs k)[j]? = some (.int .i64 (pS zs j)) := by simp [rowP, h]

theorem tmod_k (a : Int) (k : Nat) (hk : 1 ≤ k) : -(k : Int) < a.tmod k ∧ a.tmod k < k := by
  have h : (a.tmod k).natAbs < k := by rw [Int.natAbs_tmod]; exact Nat.mod_lt _ (by simp; omega)
  omega
theorem addrS_val (o : Int) (h : 1 ≤ o) (h' : o ≤ 65536) : addrS o = 2097144 + 8 * o := by unfold addrS; rw [if_pos ⟨h, h'⟩]; omega
theorem bytesS_val (n : Int) (h : 0 ≤ n) (h' : n ≤ 1000000) : bytesS n = 24 + 8 * n := by unfold bytesS; rw [if_neg (by omega)]; omega
theorem slotS_val (o s : Int) (h : 1 ≤ o) (h' : o ≤ 65536) (g : 0 ≤ s) (g' : s ≤ 1000000) : slotS o s = 2097168 + 8 * o + 8 * s := by
  unfold slotS
  rw [addrS_val o h h', bytesS_val s g g', if_neg (by omega)]
  omega
theorem pS_mono (zs : List Int) (i : Nat) : ∀ d, pS zs i ≤ pS zs (i + d)
  | 0 => Int.le_refl _
  | d + 1 => by
    have h := pS_mono zs i d
    have n := nS_range (zs.getD (i + d) 0)
    show pS zs i ≤ pS zs (i + d) + 3 + nS (zs.getD (i + d) 0)
    omega
/-- the place of q lies at or below i's, or at or above that of the one behind i; it moves with the order -/
theorem pS_apart (zs : List Int) (i q : Nat) : (q ≤ i → pS zs q ≤ pS zs i) ∧ (i < q → pS zs (i + 1) ≤ pS zs q) ∧ (q ≤ i ∨ i < q) := by
  refine ⟨fun h => ?_, fun h => ?_, by omega⟩
  · obtain ⟨d, rfl⟩ : ∃ d, i = q + d := ⟨i - q, by omega⟩
    exact pS_mono zs q d
  · obtain ⟨d, rfl⟩ : ∃ d, q = i + 1 + d := ⟨q - (i + 1), by omega⟩
    exact pS_mono zs (i + 1) d
theorem addr_q (o : Int) (w : World) : Calls Try.prog 63 #[.int .i64 o] w fun e w' => e = .returned (.int .u64 (addrS o)) ∧ w' = w := (addr_c o w).mono fun e w' ⟨h, h'⟩ => ⟨h, h'.symm⟩
theorem bytes_q (n : Int) (w : World) (h' : n ≤ 9223372036854775807) : Calls Try.prog 67 #[.int .i64 n] w fun e w' => e = .returned (.int .u64 (bytesS n)) ∧ w' = w := (bytes_c n w h').mono fun e w' ⟨h, h'⟩ => ⟨h, h'.symm⟩
theorem quiet_more {P : Program} {f : FuncId} {args : Array Value} {w : World} {a n : Nat} {v : Value}
    (h : Calls P f args (w.drewN (a + n)) fun e w' => e = .returned v ∧ w.drewN (a + n) = w') :
    Calls P f args (w.drewN (a + n)) fun e w' => e = .returned v ∧ ∃ m, w' = w.drewN (a + m) := h.mono fun e w' hh => by
  obtain ⟨h1, h2⟩ := hh
  exact ⟨h1, n, h2.symm⟩
theorem one1 (x : Int) : ∀ u ∈ [Value.int .i64 x], u.oneCell' = true := by intro u hu; simp at hu; subst hu; rfl
theorem pS_succ (zs : List Int) (i : Nat) : pS zs (i + 1) = pS zs i + 3 + nS (zs.getD i 0) := rfl
theorem cell_new1 (w : World) (v : Value) (t : TypeId) : ∀ j u, [v][j]? = some u → (w.alloc (.cells #[v] t)).cell? ((⟨w.heap.size, 0, none⟩ : Addr).add j) = some u := by
  intro j u hj
  match j, hj with
  | 0, hj => simp at hj; subst hj; simp [Addr.add]
theorem rel_more {k : Nat} {zs : List Int} {w wr w1 : World} {u v' : Value} {o : Obj}
    (hown : wr.ownsRow w.heap.size 3 1 u k (rowP zs k)) (hnx : Below w.heap.size w wr)
    (hown' : w1.ownsRow w.heap.size 3 1 v' (k + 1) (rowP zs k ++ [.int .i64 (pS zs k)])) (hgrow : (wr.alloc o).grownBy w1 u.ownBlock) :
    w1.ownsRow w.heap.size 3 1 v' (k + 1) (rowP zs (k + 1)) ∧ Below w.heap.size w w1 :=
  ⟨by rw [rowP_succ]; exact hown', (hnx.alloc (by have := hnx.size; omega) o).grown hgrow (by have := hnx.size; simp; omega) (fun j hj => (hown.lt j hj).1)⟩
set_option maxRecDepth 1000000 in
set_option maxHeartbeats 4000000 in
theorem slots_c (b off len cap : Nat) (zs : List Int) (a1 a2 a3 a4 : Int) (w : World) (h1 : 1 ≤ len) (h2 : len ≤ 200) (hz : len ≤ zs.length)
    (hc : ∀ j, j < zs.length → w.cell? ⟨b, off + j, none⟩ = some (.int .i64 (zs.getD j 0)))
    (b11 : -9223372036854775808 ≤ a1) (b12 : a1 ≤ 9223372036854775807) (b31 : -9223372036854775808 ≤ a3) (b32 : a3 ≤ 9223372036854775807) (b22 : a2 ≤ 9223372036854775807) (b42 : a4 ≤ 9223372036854775807) :
    Calls Try.prog 13 #[.slice (some ⟨b, off, none⟩) len cap, .int .i64 a1, .int .i64 a2, .int .i64 a3, .int .i64 a4] w fun e w' => e = .returned (.bool true) ∧ Below w.heap.size w w' := by
  obtain ⟨i0, hi, hz0, hz1, hz2⟩ := info_parts info3
  have hb : b < w.heap.size := blk_lt (hc 0 (by omega))
  have HC := Lib.hid hc
  have HB := Lib.hid hb
  have hln : ((len : Int) == 0) = false := by simp; omega
  clear hc
  go_enter Try.func13, Try.ntmps13
  go_wp2_with (go_at_call 51; refine (known_c _).mono ?_; rintro e w' ⟨rfl, rfl⟩)
  go_loopw [10, 11, 12, 13, 14] (fun _ at' v i _ wr => ∃ k : Nat, k ≤ len ∧ i = .int .i64 k ∧ at' = .int .i64 (pS zs k) ∧ wr.ownsRow w.heap.size 3 1 v k (rowP zs k) ∧ Below w.heap.size w wr) (fun _ _ _ i _ _ => len - (intOf i).toNat)
  case atStart => exact ⟨0, Nat.zero_le _, rfl, rfl, World.ownsRow_nil _ _ _ _, Below.refl _ _⟩
  case round =>
    obtain ⟨k, hk, rfl, rfl, hown, hnx⟩ := hrel
    have hp := pS_range zs k
    have hm3 : k + 1 ≤ maxLen := by unfold maxLen; omega
    have hm4 : (k + 1) * 8 ≤ 140737488355328 := by omega
    have hm5 : w.heap.size ≤ (wr.alloc (.cells #[.int .i64 (pS zs k)] 3)).heap.size := by have := hnx.size; simp; omega
    by_cases hlt : k < len
    · obtain ⟨z, HZ⟩ : ∃ z : Int, Hid (z = zs.getD k 0) := ⟨_, Lib.hid rfl⟩
      have hcx : wr.cell? ⟨b, off + k, none⟩ = some (.int .i64 z) := by rw [HZ.out]; exact (hnx.cell (by exact HB.out)).trans (HC.out k (by omega))
      have htr := tmod50 z
      obtain ⟨t, ht, HT⟩ : ∃ t : Int, z.tmod 50 = t ∧ Hid (nS z = if t < 0 then 0 - t else t) := ⟨_, rfl, Lib.hid rfl⟩
      rw [ht] at htr
      have hsz := hnx.size
      by_cases hneg : t < 0
      · have HP : Hid (pS zs (k + 1) = pS zs k + 3 + nS z) := Lib.hid (by rw [HZ.out]; rfl)
        go_wp2_with (first | (at_builtin; refine wpList_append_own _ rfl _ _ 29 rfl w.heap.size 3 i0 (.int .i64 0) 1 8 Try.underlying29 hi hz0 hz1 hz2 rfl (by decide) _ _ _ rfl (hown.alloc _) ⟨wr.heap.size, 0, none⟩ 1 1 [.int .i64 (pS zs k)] rfl rfl (cell_new1 _ _ _) (one1 _) hm3 hm4 hm5 ?_) | (go_at_call 67; refine (bytes_c _ _ (by omega)).mono ?_; rintro e w' ⟨rfl, rfl⟩))
        intro v' w1 hown' hgrow hne
        have R := rel_more hown hnx hown' hgrow
        clear hown hown' hgrow hne hnx hcx
        have hbs : bytesS (-t) = 24 + 8 * (-t) := by unfold bytesS; rw [if_neg (by omega)]; omega
        go_wp2_with (go_at_call 67; refine (bytes_c _ _ (by omega)).mono ?_; rintro e w' ⟨rfl, rfl⟩)
        go_roundw
        case rel => exact ⟨k + 1, by omega, by go_num, by rw [HP.out, HT.out]; rw [if_pos hneg, Int.zero_sub], R.1, R.2⟩
        case measure => simp [intOf]; omega
      · have HP : Hid (pS zs (k + 1) = pS zs k + 3 + nS z) := Lib.hid (by rw [HZ.out]; rfl)
        go_wp2_with (first | (at_builtin; refine wpList_append_own _ rfl _ _ 29 rfl w.heap.size 3 i0 (.int .i64 0) 1 8 Try.underlying29 hi hz0 hz1 hz2 rfl (by decide) _ _ _ rfl (hown.alloc _) ⟨wr.heap.size, 0, none⟩ 1 1 [.int .i64 (pS zs k)] rfl rfl (cell_new1 _ _ _) (one1 _) hm3 hm4 hm5 ?_) | (go_at_call 67; refine (bytes_c _ _ (by omega)).mono ?_; rintro e w' ⟨rfl, rfl⟩))
        intro v' w1 hown' hgrow hne
        have R := rel_more hown hnx hown' hgrow
        clear hown hown' hgrow hne hnx hcx
        have hbs : bytesS t = 24 + 8 * t := by unfold bytesS; rw [if_neg (by omega)]; omega
        go_wp2_with (go_at_call 67; refine (bytes_c _ _ (by omega)).mono ?_; rintro e w' ⟨rfl, rfl⟩)
        go_roundw
        case rel => exact ⟨k + 1, by omega, by go_num, by rw [HP.out, HT.out]; rw [if_neg (by omega)], R.1, R.2⟩
        case measure => simp [intOf]; omega
    · obtain rfl : k = len := by omega
      go_wp2_with (at_builtin; refine wpList_append_own _ rfl _ _ 29 rfl w.heap.size 3 i0 (.int .i64 0) 1 8 Try.underlying29 hi hz0 hz1 hz2 rfl (by decide) _ _ _ rfl (hown.alloc _) ⟨wr.heap.size, 0, none⟩ 1 1 [.int .i64 (pS zs k)] rfl rfl (cell_new1 _ _ _) (one1 _) hm3 hm4 hm5 ?_)
      intro v' w1 hown' hgrow hne
      have R := rel_more hown hnx hown' hgrow
      clear hown hown' hgrow hne hnx
      obtain ⟨hown2, hnx2⟩ := R
      obtain ⟨g, cp, hv, hcell⟩ : ∃ g cp, v' = .slice (some ⟨g, 0, none⟩) (k + 1) cp ∧ Hid (∀ j, j ≤ k → w1.cell? ⟨g, j, none⟩ = some (.int .i64 (pS zs j))) := by
        rcases hown2.2 with ⟨_, h0⟩ | ⟨g, cp, cur, hv, _⟩
        · omega
        · subst hv
          exact ⟨g, cp, rfl, Lib.hid (fun j hj => by rw [hown2.cellAt j (by omega), rowP_get _ _ _ (by omega)])⟩
      subst hv
      clear hown2
      have hto := tmod_k a1 k (by omega)
      have htp := tmod_k a3 k (by omega)
      obtain ⟨o, ho⟩ : ∃ o : Int, a1.tmod (k : Int) = o := ⟨_, rfl⟩
      obtain ⟨p, hp'⟩ : ∃ p : Int, a3.tmod (k : Int) = p := ⟨_, rfl⟩
      rw [ho] at hto
      rw [hp'] at htp
      by_cases c1 : o < 0
      · have d1 : decide (o < 0) = true := decide_eq_true (by omega)
        go_wp2
        go_quiet (fail)
        go_wp2
        go_ret
        exact ⟨rfl, below_drewN hnx2 _⟩
      · have d1 : decide (o < 0) = false := decide_eq_false c1
        by_cases c2 : p < 0
        · have d2 : decide (p < 0) = true := decide_eq_true (by omega)
          go_wp2
          go_quiet (fail)
          go_wp2
          go_ret
          exact ⟨rfl, below_drewN hnx2 _⟩
        · have d2 : decide (p < 0) = false := decide_eq_false c2
          by_cases c3 : a2 < 0
          · have d3 : decide (a2 < 0) = true := decide_eq_true (by omega)
            go_wp2
            go_quiet (fail)
            go_wp2
            go_ret
            exact ⟨rfl, below_drewN hnx2 _⟩
          · have d3 : decide (a2 < 0) = false := decide_eq_false c3
            by_cases c4 : a4 < 0
            · have d4 : decide (a4 < 0) = true := decide_eq_true (by omega)
              go_wp2
              go_quiet (fail)
              go_wp2
              go_ret
              exact ⟨rfl, below_drewN hnx2 _⟩
            · have d4 : decide (a4 < 0) = false := decide_eq_false c4
              obtain ⟨i, rfl⟩ := Int.eq_ofNat_of_zero_le (show 0 ≤ o by omega)
              obtain ⟨j, rfl⟩ := Int.eq_ofNat_of_zero_le (show 0 ≤ p by omega)
              obtain ⟨A, hA, HA, hA1, hA2⟩ : ∃ A : Int, w1.cell? ⟨g, i, none⟩ = some (.int .i64 A) ∧ Hid (A = pS zs i) ∧ 1 ≤ A ∧ A ≤ 10401 := ⟨_, hcell.out i (by omega), Lib.hid rfl, (pS_range zs i).1, by have := (pS_range zs i).2; omega⟩
              obtain ⟨A', hA', HA', hAm, hAM⟩ : ∃ A' : Int, w1.cell? ⟨g, i + 1, none⟩ = some (.int .i64 A') ∧ Hid (A' = pS zs (i + 1)) ∧ A + 3 ≤ A' ∧ A' ≤ A + 52 := ⟨_, hcell.out (i + 1) (by omega), Lib.hid rfl, by rw [HA.out, pS_succ]; have := nS_range (zs.getD i 0); omega, by rw [HA.out, pS_succ]; have := nS_range (zs.getD i 0); omega⟩
              obtain ⟨C, hC, HC', hC1, hC2⟩ : ∃ C : Int, w1.cell? ⟨g, j, none⟩ = some (.int .i64 C) ∧ Hid (C = pS zs j) ∧ 1 ≤ C ∧ C ≤ 10401 := ⟨_, hcell.out j (by omega), Lib.hid rfl, (pS_range zs j).1, by have := (pS_range zs j).2; omega⟩
              obtain ⟨C', hC'', HCC, hCm, hCM⟩ : ∃ C' : Int, w1.cell? ⟨g, j + 1, none⟩ = some (.int .i64 C') ∧ Hid (C' = pS zs (j + 1)) ∧ C + 3 ≤ C' ∧ C' ≤ C + 52 := ⟨_, hcell.out (j + 1) (by omega), Lib.hid rfl, by rw [HC'.out, pS_succ]; have := nS_range (zs.getD j 0); omega, by rw [HC'.out, pS_succ]; have := nS_range (zs.getD j 0); omega⟩
              have g1 : (i : Int) < (k : Int) + 1 := by omega
              have g2 : (j : Int) < (k : Int) + 1 := by omega
              have g3 : (i : Int) + 1 < (k : Int) + 1 := by omega
              have g4 : (j : Int) + 1 < (k : Int) + 1 := by omega
              by_cases c5 : A' - A - 3 ≤ a2
              · have d5 : decide (A' - A - 3 ≤ a2) = true := decide_eq_true (by omega)
                go_wp2
                go_quiet (fail)
                go_wp2
                go_ret
                exact ⟨rfl, below_drewN hnx2 _⟩
              · have d5 : decide (A' - A - 3 ≤ a2) = false := decide_eq_false c5
                by_cases c6 : C' - C - 3 ≤ a4
                · have d6 : decide (C' - C - 3 ≤ a4) = true := decide_eq_true (by omega)
                  go_wp2
                  go_quiet (fail)
                  go_wp2
                  go_ret
                  exact ⟨rfl, below_drewN hnx2 _⟩
                · have d6 : decide (C' - C - 3 ≤ a4) = false := decide_eq_false c6
                  obtain ⟨X, hX, hXv, hXw⟩ : ∃ X : Int, slotS A a2 = X ∧ X ≤ 2097168 + 8 * A + 8 * a2 ∧ 2097168 + 8 * A + 8 * a2 ≤ X := ⟨_, rfl, Int.le_of_eq (slotS_val A a2 (by omega) (by omega) (by omega) (by omega)), Int.le_of_eq (slotS_val A a2 (by omega) (by omega) (by omega) (by omega)).symm⟩
                  obtain ⟨Y, hY, hYv, hYw⟩ : ∃ Y : Int, slotS C a4 = Y ∧ Y ≤ 2097168 + 8 * C + 8 * a4 ∧ 2097168 + 8 * C + 8 * a4 ≤ Y := ⟨_, rfl, Int.le_of_eq (slotS_val C a4 (by omega) (by omega) (by omega) (by omega)), Int.le_of_eq (slotS_val C a4 (by omega) (by omega) (by omega) (by omega)).symm⟩
                  obtain ⟨Z, hZ, hZv, hZw⟩ : ∃ Z : Int, addrS A = Z ∧ Z ≤ 2097144 + 8 * A ∧ 2097144 + 8 * A ≤ Z := ⟨_, rfl, Int.le_of_eq (addrS_val A (by omega) (by omega)), Int.le_of_eq (addrS_val A (by omega) (by omega)).symm⟩
                  obtain ⟨V, hV, hVv, hVw⟩ : ∃ V : Int, bytesS (A' - A - 3) = V ∧ V ≤ 24 + 8 * (A' - A - 3) ∧ 24 + 8 * (A' - A - 3) ≤ V := ⟨_, rfl, Int.le_of_eq (bytesS_val (A' - A - 3) (by omega) (by omega)), Int.le_of_eq (bytesS_val (A' - A - 3) (by omega) (by omega)).symm⟩
                  have hAZ : ∀ W, Calls Try.prog 63 #[.int .i64 A] W fun e w' => e = .returned (.int .u64 Z) ∧ W = w' := fun W => by
                    have h := addr_c A W
                    rw [hZ] at h
                    exact h
                  have hBV : ∀ W, Calls Try.prog 67 #[.int .i64 (A' - A - 3)] W fun e w' => e = .returned (.int .u64 V) ∧ W = w' := fun W => by
                    have h := bytes_c (A' - A - 3) W (by omega)
                    rw [hV] at h
                    exact h
                  have HAZ := Lib.hid hAZ
                  have HBV := Lib.hid hBV
                  clear hAZ hBV hZ hV
                  have e1 : decide (X < Z + 24) = false := decide_eq_false (by omega)
                  have e2 : decide (Z + V < X + 8) = false := decide_eq_false (by omega)
                  have HFX : Hid (∀ (q : Nat) (F : Int), F = pS zs q → (addrS F == X) = false) := Lib.hid (fun q F hF => by
                    have hm := pS_apart zs i q
                    rw [← hF, ← HA.out, ← HA'.out] at hm
                    have hF1 := (pS_range zs q).1
                    rw [← hF] at hF1
                    have : addrS F ≠ X := by unfold addrS; split <;> omega
                    simpa using this)
                  have hij := pS_apart zs i j
                  have hji := pS_apart zs j i
                  rw [← HC'.out, ← HA.out, ← HA'.out] at hij
                  rw [← HC'.out, ← HA.out, ← HCC.out] at hji
                  have HE : Hid (i = j → A = C) := Lib.hid (fun h => by rw [HA.out, HC'.out, h])
                  rcases Nat.lt_trichotomy i j with hcmp | hcmp | hcmp
                  · have x1 : (X == Y) = false := by simp; omega
                    have x2 : ((i : Int) == (j : Int)) = false := by simp; omega
                    go_wp2
                    go_quiet (fail)
                    go_wp2_with (go_at_call 65; refine (slot_c _ _ _ (by omega)).mono ?_; rintro e w' ⟨rfl, rfl⟩)
                    go_quiet ((first | (go_at_call 63; exact quiet_more (HAZ.out _)) | (go_at_call 67; exact quiet_more (HBV.out _))))
                    go_wp2
                    try rw [World.drewN_drewN]
                    go_loop [10, 17] (fun _ q => ∃ q' : Nat, q' ≤ k ∧ q = .int .i64 q') (fun _ q => k - (intOf q).toNat)
                    case atStart => exact ⟨0, by omega, rfl⟩
                    case round =>
                      obtain ⟨q, hq, rfl⟩ := hrel
                      by_cases hqk : q < k
                      · obtain ⟨F, hF, HF⟩ : ∃ F : Int, w1.cell? ⟨g, q, none⟩ = some (.int .i64 F) ∧ Hid (F = pS zs q) := ⟨_, hcell.out q (by omega), Lib.hid rfl⟩
                        obtain ⟨G, hG, hGX⟩ : ∃ G : Int, addrS F = G ∧ (G == X) = false := ⟨_, rfl, HFX.out q F HF.out⟩
                        have gq : (q : Int) < (k : Int) + 1 := by omega
                        go_wp2_with (go_at_call 63; refine (addr_c _ _).mono ?_; rintro e w' ⟨rfl, rfl⟩)
                        go_round
                        case rel => first | exact ⟨q + 1, by omega, by go_num⟩ | (refine ⟨trivial, ?_⟩; (repeat apply Exists.intro); exact ⟨⟨q + 1, by omega, rfl⟩, rfl⟩)
                        case measure => simp [intOf]; omega
                      · obtain rfl : q = k := by omega
                        go_wp2
                        go_ret
                        first | exact ⟨rfl, below_drewN hnx2 _⟩ | exact ⟨rfl, below_drewN (below_drewN hnx2 _) _⟩
                  · have hAC := HE.out hcmp
                    have x2 : ((i : Int) == (j : Int)) = true := by simp; omega
                    by_cases hab : a2 = a4
                    · have x1 : (X == Y) = true := by simp; omega
                      have x3 : (a2 == a4) = true := by simpa using hab
                      have HAB := Lib.hid hab
                      have HAC := Lib.hid hAC
                      have HCM := Lib.hid hcmp
                      clear hab hAC hcmp hij hji
                      go_wp2
                      go_quiet (fail)
                      go_wp2_with (go_at_call 65; refine (slot_c _ _ _ (by omega)).mono ?_; rintro e w' ⟨rfl, rfl⟩)
                      go_quiet ((first | (go_at_call 63; exact quiet_more (HAZ.out _)) | (go_at_call 67; exact quiet_more (HBV.out _))))
                      go_wp2
                      try rw [World.drewN_drewN]
                      go_loop [10, 17] (fun _ q => ∃ q' : Nat, q' ≤ k ∧ q = .int .i64 q') (fun _ q => k - (intOf q).toNat)
                      case atStart => exact ⟨0, by omega, rfl⟩
                      case round =>
                        obtain ⟨q, hq, rfl⟩ := hrel
                        by_cases hqk : q < k
                        · obtain ⟨F, hF, HF⟩ : ∃ F : Int, w1.cell? ⟨g, q, none⟩ = some (.int .i64 F) ∧ Hid (F = pS zs q) := ⟨_, hcell.out q (by omega), Lib.hid rfl⟩
                          obtain ⟨G, hG, hGX⟩ : ∃ G : Int, addrS F = G ∧ (G == X) = false := ⟨_, rfl, HFX.out q F HF.out⟩
                          have gq : (q : Int) < (k : Int) + 1 := by omega
                          go_wp2_with (go_at_call 63; refine (addr_c _ _).mono ?_; rintro e w' ⟨rfl, rfl⟩)
                          go_round
                          case rel => first | exact ⟨q + 1, by omega, by go_num⟩ | (refine ⟨trivial, ?_⟩; (repeat apply Exists.intro); exact ⟨⟨q + 1, by omega, rfl⟩, rfl⟩)
                          case measure => simp [intOf]; omega
                        · obtain rfl : q = k := by omega
                          go_wp2
                          go_ret
                          first | exact ⟨rfl, below_drewN hnx2 _⟩ | exact ⟨rfl, below_drewN (below_drewN hnx2 _) _⟩
                    · have x1 : (X == Y) = false := by simp; omega
                      have x3 : (a2 == a4) = false := by simpa using hab
                      have HAC := Lib.hid hAC
                      have HCM := Lib.hid hcmp
                      clear hAC hcmp hij hji hab
                      go_wp2
                      go_quiet (fail)
                      go_wp2_with (go_at_call 65; refine (slot_c _ _ _ (by omega)).mono ?_; rintro e w' ⟨rfl, rfl⟩)
                      go_quiet ((first | (go_at_call 63; exact quiet_more (HAZ.out _)) | (go_at_call 67; exact quiet_more (HBV.out _))))
                      go_wp2
                      try rw [World.drewN_drewN]
                      go_loop [10, 17] (fun _ q => ∃ q' : Nat, q' ≤ k ∧ q = .int .i64 q') (fun _ q => k - (intOf q).toNat)
                      case atStart => exact ⟨0, by omega, rfl⟩
                      case round =>
                        obtain ⟨q, hq, rfl⟩ := hrel
                        by_cases hqk : q < k
                        · obtain ⟨F, hF, HF⟩ : ∃ F : Int, w1.cell? ⟨g, q, none⟩ = some (.int .i64 F) ∧ Hid (F = pS zs q) := ⟨_, hcell.out q (by omega), Lib.hid rfl⟩
                          obtain ⟨G, hG, hGX⟩ : ∃ G : Int, addrS F = G ∧ (G == X) = false := ⟨_, rfl, HFX.out q F HF.out⟩
                          have gq : (q : Int) < (k : Int) + 1 := by omega
                          go_wp2_with (go_at_call 63; refine (addr_c _ _).mono ?_; rintro e w' ⟨rfl, rfl⟩)
                          go_round
                          case rel => first | exact ⟨q + 1, by omega, by go_num⟩ | (refine ⟨trivial, ?_⟩; (repeat apply Exists.intro); exact ⟨⟨q + 1, by omega, rfl⟩, rfl⟩)
                          case measure => simp [intOf]; omega
                        · obtain rfl : q = k := by omega
                          go_wp2
                          go_ret
                          first | exact ⟨rfl, below_drewN hnx2 _⟩ | exact ⟨rfl, below_drewN (below_drewN hnx2 _) _⟩
                  · have x1 : (X == Y) = false := by simp; omega
                    have x2 : ((i : Int) == (j : Int)) = false := by simp; omega
                    go_wp2
                    go_quiet (fail)
                    go_wp2_with (go_at_call 65; refine (slot_c _ _ _ (by omega)).mono ?_; rintro e w' ⟨rfl, rfl⟩)
                    go_quiet ((first | (go_at_call 63; exact quiet_more (HAZ.out _)) | (go_at_call 67; exact quiet_more (HBV.out _))))
                    go_wp2
                    try rw [World.drewN_drewN]
                    go_loop [10, 17] (fun _ q => ∃ q' : Nat, q' ≤ k ∧ q = .int .i64 q') (fun _ q => k - (intOf q).toNat)
                    case atStart => exact ⟨0, by omega, rfl⟩
                    case round =>
                      obtain ⟨q, hq, rfl⟩ := hrel
                      by_cases hqk : q < k
                      · obtain ⟨F, hF, HF⟩ : ∃ F : Int, w1.cell? ⟨g, q, none⟩ = some (.int .i64 F) ∧ Hid (F = pS zs q) := ⟨_, hcell.out q (by omega), Lib.hid rfl⟩
                        obtain ⟨G, hG, hGX⟩ : ∃ G : Int, addrS F = G ∧ (G == X) = false := ⟨_, rfl, HFX.out q F HF.out⟩
                        have gq : (q : Int) < (k : Int) + 1 := by omega
                        go_wp2_with (go_at_call 63; refine (addr_c _ _).mono ?_; rintro e w' ⟨rfl, rfl⟩)
                        go_round
                        case rel => first | exact ⟨q + 1, by omega, by go_num⟩ | (refine ⟨trivial, ?_⟩; (repeat apply Exists.intro); exact ⟨⟨q + 1, by omega, rfl⟩, rfl⟩)
                        case measure => simp [intOf]; omega
                      · obtain rfl : q = k := by omega
                        go_wp2
                        go_ret
                        first | exact ⟨rfl, below_drewN hnx2 _⟩ | exact ⟨rfl, below_drewN (below_drewN hnx2 _) _⟩
end Go.Proofs.Ytapcapcbndooiaa
