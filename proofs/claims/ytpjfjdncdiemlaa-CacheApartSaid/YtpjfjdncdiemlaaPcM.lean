import Derived.Test.YtpjfjdncdiemlaaRows
import Derived.WalkKit
import Derived.ProofKit
import Derived.OpenShut
import Derived.Deep.QuietTactic
import Derived.BigQuiet
import Derived.Outline
import Derived.WalkSmall
import Derived.WalkLawsBesides
import Derived.WalkSpells
import Derived.BigGuardPart
import Derived.RegionTactic
import Derived.Deep.RegionHeld3
import Derived.Lib.Hide
import Derived.Deep.OwnRows
import Derived.Maps.AppendAt
import Derived.Deep.AppendLies
import Derived.Below
import Derived.Test.YtpjfjdncdiemlaaPcK
import Derived.Deep.RegionLaw
import Derived.Deep.RegionWith
namespace Go.Proofs.Ytpjfjdncdiemlaa
open Go.ChangeShapes Go.WideShapes Go.ChangeAt Go.RowKit
set_option linter.unusedVariables false
set_option maxRecDepth 100000 in
theorem take_a (cb : Nat) (m k : Int) (w : World) (hk : k < 1) :
    Calls Try.prog 26 #[.pointer (some ⟨cb, 0, none⟩), .int .i64 m, .int .i64 k] w fun e w' => e = .returned (.tuple #[.int .u64 0, .int .i64 1]) ∧ w' = w := by
  have d1 : decide (k < 1) = true := decide_eq_true hk
  go_enter Try.func26, Try.ntmps26
  go_wp2
  refine bodyPost_ret (v := .tuple #[.int .u64 0, .int .i64 1]) (by simp [results, Try.results26, go_sem]) rfl ⟨rfl, rfl⟩
set_option maxRecDepth 100000 in
set_option maxHeartbeats 2000000 in
theorem take_b (cb at0 n : Nat) (wd tk m k : Int) (v : Value) (xs : List Value) (w : World) (hn : n ≤ 900) (h1 : 0 ≤ tk) (h2 : tk ≤ wd) (h3 : wd ≤ 65536) (hk : 1 ≤ k) (hk2 : wd - tk < k) (HC : Hid (CaAt w cb at0 wd tk v n xs)) (HN : Hid (∀ j, j < n → ∃ m', TkLM xs j m' ∧ (m' == m) = false)) :
    Calls Try.prog 26 #[.pointer (some ⟨cb, 0, none⟩), .int .i64 m, .int .i64 k] w fun e w' => e = .returned (.tuple #[.int .u64 0, .int .i64 4]) ∧ Below w.heap.size w w' := by
  have d1 : decide (k < 1) = false := decide_eq_false (by omega)
  have d2 : decide (wd - tk < k) = true := decide_eq_true hk2
  go_enter Try.func26, Try.ntmps26
  go_wp2_with (go_at_call 45; refine (pfind_n cb at0 n wd tk m v xs _ (by omega) HC HN).mono ?_; rintro e w1 ⟨rfl, hb⟩; have HC1 := Lib.hid (HC.out.below hb); have HB1 := Lib.hid hb; clear hb)
  refine (left_c cb at0 n wd tk v xs _ h1 h2 h3 HC1).mono ?_
  rintro e w2 ⟨rfl, q, rfl⟩
  have HB2 := Lib.hid (below_drewN HB1.out q)
  clear HC1 HB1
  generalize w1.drewN q = w2 at *
  go_wp2
  refine bodyPost_ret (v := .tuple #[.int .u64 0, .int .i64 4]) (by simp [results, Try.results26, go_sem]) rfl ⟨rfl, HB2.out⟩
/-- The plays so far: pieces of methods below j. -/
def Seen (xs : List Value) (n j : Nat) : Prop := n ≤ j ∧ xs.length = n * 6 ∧ ∀ i, i < n → ∃ m' : Nat, m' < j ∧ TkLM xs i m'
theorem seen_none {xs : List Value} {n j : Nat} (h : Seen xs n j) : ∀ i, i < n → ∃ m', TkLM xs i m' ∧ (m' == (j : Int)) = false := fun i hi => by
  obtain ⟨m', h1, h2⟩ := h.2.2 i hi
  exact ⟨m', h2, by simp; omega⟩
theorem Seen.next {xs : List Value} {n j : Nat} (h : Seen xs n j) : Seen xs n (j + 1) := by
  obtain ⟨h1, h2, h3⟩ := h
  exact ⟨by omega, h2, fun i hi => by obtain ⟨m', g1, g2⟩ := h3 i hi; exact ⟨m', by omega, g2⟩⟩
theorem Seen.more {xs : List Value} {n j : Nat} (h : Seen xs n j) (a f r : Int) : Seen (xs ++ tkRow j a f r) (n + 1) (j + 1) := by
  obtain ⟨h1, h2, h3⟩ := h
  refine ⟨by omega, by simp [tkRow, h2]; omega, fun i hi => ?_⟩
  rcases Nat.lt_or_ge i n with hlt | hge
  · obtain ⟨m', g1, a', wo, wl, wc, st, f', r', g⟩ := h3 i hlt
    obtain ⟨t0, t1, t2, t3, t4, t5⟩ := g
    have ap : ∀ p u, xs[p]? = some u → (xs ++ tkRow j a f r)[p]? = some u := fun p u hu => by rw [List.getElem?_append_left (List.getElem?_eq_some_iff.1 hu).1]; exact hu
    exact ⟨m', by omega, a', wo, wl, wc, st, f', r', ap _ _ t0, ap _ _ t1, ap _ _ t2, ap _ _ t3, ap _ _ t4, ap _ _ t5⟩
  · obtain rfl : i = n := by omega
    have ap : ∀ q u, (tkRow j a f r)[q]? = some u → (xs ++ tkRow j a f r)[i * 6 + q]? = some u := fun q u hu => by rw [List.getElem?_append_right (by omega), h2, show i * 6 + q - i * 6 = q by omega]; exact hu
    exact ⟨j, by omega, a, Option.none, 0, 0, 0, f, r, ap 0 _ rfl, ap 1 _ rfl, ap 2 _ rfl, ap 3 _ rfl, ap 4 _ rfl, ap 5 _ rfl⟩
set_option maxRecDepth 100000 in
set_option maxHeartbeats 8000000 in
theorem apart26_c (b0 off len cap : Nat) (wd : Int) (zs : List Int) (w : World) (h1 : 0 ≤ wd) (h2 : wd ≤ 65536) (h3 : wd % 16 = 0) (h4 : len ≤ 300) (hz : len ≤ zs.length) (hb : b0 < w.heap.size) (hc : ∀ j, j < len → w.cell? ⟨b0, off + j, none⟩ = some (.int .i64 (zs.getD j 0))) :
    Calls Try.prog 8 #[.int .i64 wd, .slice (some ⟨b0, off, none⟩) len cap] w fun e w' => e = .returned (.bool true) ∧ Below w.heap.size w w' := by
  have HC := Lib.hid hc
  have HB := Lib.hid hb
  have d1 : decide (wd < 0) = false := decide_eq_false (by omega)
  have d2 : decide ((65536 : Int) < wd) = false := decide_eq_false (by omega)
  have d3 : wd.tmod 16 = 0 := by rw [Int.tmod_eq_emod_of_nonneg h1]; exact h3
  have d4 : decide ((300 : Int) < (len : Int)) = false := decide_eq_false (by omega)
  clear hc
  go_enter Try.func8, Try.ntmps8
  go_wp2_with (first | (go_at_call 23; refine (known26_c _).mono ?_; rintro e w1 ⟨rfl, hb1⟩; have HB1 := Lib.hid hb1; clear hb1) | (go_at_call 24; refine (cnew_c 1048576 wd _ (by decide) h1 h2 h3).mono ?_; rintro e w2 ⟨cb, rfl, hcb, hca, hb2⟩; have HB2 := Lib.hid (HB1.out.trans (hb2.mono HB1.out.size)); have HCA := Lib.hid hca; have hcw : w.heap.size ≤ cb := Nat.le_trans HB1.out.size hcb; clear hb2 hca HB1))
  go_loopw [7, 8] (fun en i wr => ∃ (j E n : Nat) (tk : Int) (v : Value) (xs : List Value), en = .int .u64 E ∧ i = .int .i64 j ∧ j ≤ len ∧ (E : Int) ≤ 1048576 + 4 * tk ∧ 0 ≤ tk ∧ tk ≤ wd ∧ tk % 16 = 0 ∧ Hid (Seen xs n j) ∧ Hid (CaAt wr cb 1048576 wd tk v n xs) ∧ Hid (Below w.heap.size w wr)) (fun _ i _ => len - (intOf i).toNat)
  case atStart => exact ⟨0, 1048576, 0, 0, _, [], rfl, rfl, by omega, by decide, by decide, h1, by decide, Lib.hid ⟨by decide, rfl, fun i hi => absurd hi (Nat.not_lt_zero _)⟩, HCA, HB2⟩
  case round =>
    obtain ⟨j, E, n, tk, v, xs, rfl, rfl, hj, hE, t1, t2, t3, HS, HCr, HBr⟩ := hrel
    by_cases hlt : j < len
    · obtain ⟨z, HZ⟩ : ∃ z : Int, Hid (z = zs.getD j 0) := ⟨_, Lib.hid rfl⟩
      have hc0 := HC.out j hlt
      rw [← HZ.out] at hc0
      have hcx : wr.cell? ⟨b0, off + j, none⟩ = some (.int .i64 z) := (HBr.out.cell (p := ⟨b0, _, none⟩) HB.out).trans hc0
      clear hc0
      have hnj : n ≤ j := HS.out.1
      go_wp2_with fail
      refine (left_c cb 1048576 n wd tk v xs _ t1 t2 h2 HCr).mono ?_
      rintro e w3 ⟨rfl, q, rfl⟩
      have hb3 : Below wr.heap.size wr (wr.drewN q) := below_drewN (Below.refl _ _) q
      have HC3 := Lib.hid (HCr.out.below hb3)
      have HB3 := Lib.hid (HBr.out.trans (hb3.mono HBr.out.size))
      clear hb3 hcx HCr HBr
      generalize wr.drewN q = w3 at *
      have hcx : w3.cell? ⟨b0, off + j, none⟩ = some (.int .i64 z) := (HB3.out.cell (p := ⟨b0, _, none⟩) HB.out).trans (by rw [HZ.out]; exact HC.out j hlt)
      go_wp2_with fail
      by_cases hz1 : z < 1
      · have e1 : decide (1 ≤ z) = false := decide_eq_false (by omega)
        refine (take_a cb j z _ hz1).mono ?_
        rintro e w4 ⟨rfl, rfl⟩
        go_wp2_with fail
        refine (left_c cb 1048576 n wd tk v xs _ t1 t2 h2 HC3).mono ?_
        rintro e w5 ⟨rfl, q5, rfl⟩
        have hb5 : Below w4.heap.size w4 (w4.drewN q5) := below_drewN (Below.refl _ _) q5
        have HC5 := Lib.hid (HC3.out.below hb5)
        have HB5 := Lib.hid (HB3.out.trans (hb5.mono HB3.out.size))
        clear hb5 hcx HC3 HB3
        generalize w4.drewN q5 = w5 at *
        have hcx : w5.cell? ⟨b0, off + j, none⟩ = some (.int .i64 z) := (HB5.out.cell (p := ⟨b0, _, none⟩) HB.out).trans (by rw [HZ.out]; exact HC.out j hlt)
        go_wp2
        go_roundw
        case rel => exact ⟨j + 1, E, n, tk, v, xs, rfl, by go_num, by omega, hE, t1, t2, t3, Lib.hid HS.out.next, HC5, HB5⟩
        case measure => simp [intOf]; omega
      · by_cases hz2 : wd - tk < z
        · have e1 : decide (1 ≤ z) = true := decide_eq_true (by omega)
          have e2 : decide (z ≤ wd - tk) = false := decide_eq_false (by omega)
          refine (take_b cb 1048576 n wd tk j z v xs _ (by omega) t1 t2 h2 (by omega) hz2 HC3 (Lib.hid (seen_none HS.out))).mono ?_
          rintro e w4 ⟨rfl, hb4⟩
          have HC4 := Lib.hid (HC3.out.below hb4)
          have HB4 := Lib.hid (HB3.out.trans (hb4.mono HB3.out.size))
          clear hb4 hcx HC3 HB3
          go_wp2_with fail
          refine (left_c cb 1048576 n wd tk v xs _ t1 t2 h2 HC4).mono ?_
          rintro e w5 ⟨rfl, q5, rfl⟩
          have hb5 : Below w4.heap.size w4 (w4.drewN q5) := below_drewN (Below.refl _ _) q5
          have HC5 := Lib.hid (HC4.out.below hb5)
          have HB5 := Lib.hid (HB4.out.trans (hb5.mono HB4.out.size))
          clear hb5 HC4 HB4
          generalize w4.drewN q5 = w5 at *
          have hcx : w5.cell? ⟨b0, off + j, none⟩ = some (.int .i64 z) := (HB5.out.cell (p := ⟨b0, _, none⟩) HB.out).trans (by rw [HZ.out]; exact HC.out j hlt)
          go_wp2
          go_roundw
          case rel => exact ⟨j + 1, E, n, tk, v, xs, rfl, by go_num, by omega, hE, t1, t2, t3, Lib.hid HS.out.next, HC5, HB5⟩
          case measure => simp [intOf]; omega
        · obtain ⟨pl, hpl⟩ : ∃ pl : Int, (1048576 : Int) + 4 * tk = pl := ⟨_, rfl⟩
          have hro := roomOf_le z (wd - tk) (by omega) (by omega) (by omega)
          refine (take_y cb 1048576 n wd tk j z v xs _ (by omega) (by decide) t1 t2 h2 (by omega) (by omega) HC3 (Lib.hid (seen_none HS.out))).mono ?_
          rintro e w4 ⟨he, hb4, v4, hc4⟩
          obtain rfl : e = .returned (.tuple #[.int .u64 pl, .int .i64 0]) := by rw [he, ← hpl]; rfl
          have HB4 := Lib.hid (HB3.out.trans (hb4.mono hcw))
          have HC4 := Lib.hid hc4
          clear he hb4 hc4 hcx HC3 HB3
          have hcx : w4.cell? ⟨b0, off + j, none⟩ = some (.int .i64 z) := (HB4.out.cell (p := ⟨b0, _, none⟩) HB.out).trans (by rw [HZ.out]; exact HC.out j hlt)
          have u1 : IntKind.u64.wrap z = z := by rw [IntKind.wrap_u64]; omega
          have u2 : IntKind.u64.wrap (4 * z) = 4 * z := by rw [IntKind.wrap_u64]; omega
          have u3 : IntKind.u64.wrap (pl + 4 * z) = pl + 4 * z := by rw [IntKind.wrap_u64]; omega
          have u4 : IntKind.u64.wrap wd = wd := by rw [IntKind.wrap_u64]; omega
          have u5 : IntKind.u64.wrap (4 * wd) = 4 * wd := by rw [IntKind.wrap_u64]; omega
          have u6 : IntKind.u64.wrap (1048576 + 4 * wd) = 1048576 + 4 * wd := by rw [IntKind.wrap_u64]; omega
          have e1 : decide (pl < (E : Int)) = false := decide_eq_false (by omega)
          have e2 : pl % 64 = 0 := by omega
          have e3 : pl.tmod 64 = 0 := by rw [Int.tmod_eq_emod_of_nonneg (by omega)]; exact e2
          have e4 : decide (1048576 + 4 * wd < pl + 4 * z) = false := decide_eq_false (by omega)
          obtain ⟨E2, hE2⟩ : ∃ E2 : Nat, (E2 : Int) = pl + 4 * z := ⟨(pl + 4 * z).toNat, by omega⟩
          have HE2 := Lib.hid hE2
          have HPL := Lib.hid hpl
          have HRO := Lib.hid hro
          clear hE2 hpl hro
          go_wp2
          go_roundw
          case rel => exact ⟨j + 1, E2, n + 1, tk + roomOf z, v4, _, by rw [HE2.out], by go_num, by omega, by have := HE2.out; have := HPL.out; have := HRO.out; omega, by have := HRO.out; omega, by have := HRO.out; omega, by have := HRO.out; omega, Lib.hid (HS.out.more _ _ _), HC4, HB4⟩
          case measure => simp [intOf]; omega
    · obtain rfl : j = len := by omega
      go_wp2
      go_ret
      exact ⟨rfl, HBr.out⟩
end Go.Proofs.Ytpjfjdncdiemlaa
