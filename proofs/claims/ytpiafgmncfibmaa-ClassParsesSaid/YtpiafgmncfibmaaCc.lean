import Derived.Test.YtpiafgmncfibmaaBy
import Derived.Test.YtpiafgmncfibmaaFw
import Derived.Test.YtpiafgmncfibmaaPa
import Derived.Test.YtpiafgmncfibmaaRows
import Derived.Laws.BitsLemmas
import Derived.Laws.BitsAllLaws
import Derived.WalkKit
import Derived.ProofKit
import Derived.OpenShut
import Derived.Deep.QuietTactic
import Derived.BigQuiet
import Derived.Outline
import Derived.WalkSmall
import Derived.WalkLawsBesides
import Derived.WalkSpells
import Derived.BigGuardPart
import Derived.RegionTactic
import Derived.Deep.RegionHeld3
import Derived.Lib.Hide
import Derived.Deep.MidRow
import Derived.Below
import Derived.Deep.RegionWith
import Derived.Deep.OwnRows
import Derived.Deep.AppendLies
namespace Go.Proofs.Ytpiafgmncfibmaa
open Go.ChangeShapes Go.WideShapes Go.ChangeAt Go.RowKit
set_option linter.unusedVariables false

def sumN (F : Nat → Nat) : Nat → Nat
  | 0 => 0
  | n + 1 => sumN F n + F n
theorem poolB_len (F : Nat → Int) : ∀ n, (poolB F n).length = 8 * n
  | 0 => rfl
  | n + 1 => by rw [poolB_succ, List.length_append, poolB_len F n, numB_len]; omega
theorem clsB_len (M : Nat → Nat) (F : Nat → Nat → Int) (G : Nat → Nat → Bool) : ∀ n, (clsB M F G n).length = sumN (fun i => 1 + M i) n
  | 0 => rfl
  | n + 1 => by
    rw [clsB_succ, List.length_append, clsB_len M F G n]
    simp [sumN, fldsB]
    omega
theorem mthB_len (P : Pg) (i : Nat) : (P.mthB i).length = 6 + P.pn i + P.ln i + P.cn i := by
  unfold Pg.mthB
  simp [tysB_len, codeB_len]
  omega
theorem mthsB_len (P : Pg) : ∀ n, (P.mthsB n).length = sumN (fun i => 6 + P.pn i + P.ln i + P.cn i) n
  | 0 => rfl
  | n + 1 => by rw [Pg.mthsB_succ, List.length_append, mthsB_len P n, mthB_len]; rfl
theorem bytes_len (P : Pg) : P.bytes.length = 7 + 8 * P.np + sumN (fun i => 1 + P.nf i) P.nc + sumN (fun i => 6 + P.pn i + P.ln i + P.cn i) P.nm := by
  unfold Pg.bytes
  simp [poolB_len, clsB_len, mthsB_len]
  omega
theorem numB_at (v : Int) (k m : Nat) (h : k < m) : (numB v m)[k]? = some (v / 2 ^ (8 * k) % 256) := by
  unfold numB
  rw [List.getElem?_map, List.getElem?_range h]
  rfl
theorem poolB_at (F : Nat → Int) (a k : Nat) (hk : k < 8) : ∀ n, a < n → (poolB F n)[8 * a + k]? = some (F a / 2 ^ (8 * k) % 256)
  | 0, h => by omega
  | n + 1, h => by
    rw [poolB_succ]
    by_cases han : a = n
    · subst han
      rw [List.getElem?_append_right (by rw [poolB_len]; omega), poolB_len]
      rw [show 8 * a + k - 8 * a = k by omega]
      exact numB_at _ _ _ hk
    · rw [List.getElem?_append_left (by rw [poolB_len]; omega)]
      exact poolB_at F a k hk n (by omega)
theorem bytes_at (P : Pg) (a k : Nat) (ha : a < P.np) (hk : k < 8) : P.bytes[5 + 8 * a + k]? = some (P.po a / 2 ^ (8 * k) % 256) := by
  have e : P.bytes = ([66, 90, 82, 49] ++ [((P.np : Nat) : Int)]) ++ (poolB P.po P.np ++ ([((P.nc : Nat) : Int)] ++ clsB P.nf P.ft P.fv P.nc ++ [((P.nm : Nat) : Int)] ++ P.mthsB P.nm)) := by unfold Pg.bytes; simp
  rw [e, List.getElem?_append_right (by simp; omega)]
  rw [show 5 + 8 * a + k - (([66, 90, 82, 49] : List Int) ++ [((P.np : Nat) : Int)]).length = 8 * a + k by simp; omega]
  rw [List.getElem?_append_left (by rw [poolB_len]; omega)]
  exact poolB_at P.po a k hk P.np ha
theorem bits_or_comm (k : IntKind) (x y : Int) : bits .or k x y = bits .or k y x := by
  simp only [bits]; rw [BitVec.or_comm]
theorem wraps_u64 (n : Int) (h₀ : 0 ≤ n) (h₁ : n < 2 ^ 64) : IntKind.u64.wrap n = n := by rw [IntKind.wrap_u64]; omega
theorem or_byte (v b : Int) (h0 : 0 ≤ v) (h1 : v < 72057594037927936) (h2 : 0 ≤ b) (h3 : b < 256) : bits .or .u64 (v * 256) b = v * 256 + b := by
  rw [bits_join .u64 64 (by decide) wraps_u64 8 (v * 256) b (by omega) (by omega) (by omega) h2 (by omega) (by omega)]
theorem wrap_back {p x0 x1 x2 x3 x4 x5 x6 x7 v : Int} (h1 : -9223372036854775808 ≤ p) (h2 : p ≤ 9223372036854775807) (e0 : p / 2 ^ (8 * 0) % 256 = x0) (e1 : p / 2 ^ (8 * 1) % 256 = x1) (e2 : p / 2 ^ (8 * 2) % 256 = x2) (e3 : p / 2 ^ (8 * 3) % 256 = x3) (e4 : p / 2 ^ (8 * 4) % 256 = x4) (e5 : p / 2 ^ (8 * 5) % 256 = x5) (e6 : p / 2 ^ (8 * 6) % 256 = x6) (e7 : p / 2 ^ (8 * 7) % 256 = x7)
    (hv : v = ((((((x7 * 256 + x6) * 256 + x5) * 256 + x4) * 256 + x3) * 256 + x2) * 256 + x1) * 256 + x0) : IntKind.i64.wrap v = p := by
  simp at e0 e1 e2 e3 e4 e5 e6 e7
  rw [IntKind.wrap_i64]
  omega

set_option maxRecDepth 100000 in
set_option maxHeartbeats 4000000 in
theorem counts_c (P : Pg) (A : Ad) (at_ : Int) (w : World) (h : PgAt w P A) (hf : Fits P A) : Calls Try.prog 8 #[.agg (P.cells A), .int .i64 at_] w fun e w' => e = .returned (.bool true) ∧ Below w.heap.size w w' := by
  have HA : Hid (Below w.heap.size w (w.alloc (.cells (P.cells A) 26))) := Lib.hid ((Below.refl _ _).alloc (Nat.le_refl _) _)
  have HX := Lib.hid (box_cells w P A)
  have HP : Hid (∀ V, Below (w.heap.size + 1) (w.alloc (.cells (P.cells A) 26)) V → PgAt V P A ∧ Below w.heap.size w V) := Lib.hid fun V hb => (have hB := HA.out.trans (hb.mono (by omega)); ⟨h.kept (Kept.of hB), hB⟩)
  have HFit := Lib.hid hf
  have HFew : Hid (∀ V, PgAt V P A → Calls Try.prog 13 #[.agg (P.cells A)] V (SomeB V)) := Lib.hid fun V hV => few_c P A V hV hf
  have HByt : Hid (∀ V, PgAt V P A → Calls Try.prog 14 #[.agg (P.cells A)] V (BytesR P V)) := Lib.hid fun V hV => bytes_c P A V hV hf
  clear h hf
  obtain ⟨W0, hW0⟩ : ∃ W, W = w.alloc (.cells (P.cells A) 26) := ⟨_, rfl⟩
  have hsz : W0.heap.size = w.heap.size + 1 := by rw [hW0]; simp
  rw [← hW0] at HA HX HP
  obtain ⟨pa, pc, ca, cc, ma, mc, fa, fc, ppa, ppc, lla, llc, cda, cdc⟩ := A
  obtain ⟨np, po, nc, nf, ft, fv, nm, pn, pt, rt, ln, lt, sk, cn, cd⟩ := P
  replace hW0 : W0 = w.alloc (.cells #[.slice pa np pc, .slice ca nc cc, .slice ma nm mc] 26) := hW0
  have HW0 := Lib.hid hW0
  have HSz := Lib.hid hsz
  obtain ⟨e0, e1, e2⟩ := HX.out W0 (by rw [← hsz]; exact Below.refl _ _)
  clear hW0 hsz
  show Calls Try.prog 8 #[.agg #[.slice pa np pc, .slice ca nc cc, .slice ma nm mc], .int .i64 at_] w _
  go_enter Try.func8, Try.ntmps8
  go_wp2_with fail
  rw [← HW0.out]
  clear e0 e1 e2
  refine (known14_c W0).mono ?_
  rintro e V1 ⟨rfl, hb1⟩
  have HB1 : Hid (Below (w.heap.size + 1) W0 V1) := Lib.hid (HSz.out ▸ hb1)
  clear hb1
  obtain ⟨e0, e1, e2⟩ := HX.out V1 HB1.out
  go_wp2_with fail
  clear e0 e1 e2
  refine (HFew.out V1 (HP.out V1 HB1.out).1).mono ?_
  rintro e V2 ⟨⟨fb, rfl⟩, hb2⟩
  have HB2 : Hid (Below (w.heap.size + 1) W0 V2) := Lib.hid (HB1.out.trans (hb2.mono (by have := HB1.out.size; have := HSz.out; omega)))
  clear hb2
  obtain ⟨e0, e1, e2⟩ := HX.out V2 HB2.out
  cases fb with
  | false =>
    go_wp2
    go_ret
    exact ⟨rfl, (HP.out V2 HB2.out).2⟩
  | true =>
  go_wp2_with fail
  clear e0 e1 e2
  refine (HByt.out V2 (HP.out V2 HB2.out).1).mono ?_
  rintro e V3 ⟨⟨hc, rfl⟩ | ⟨hc, g, n, cap, rfl, hl⟩, hb3⟩
  · have HB3 : Hid (Below (w.heap.size + 1) W0 V3) := Lib.hid (HB2.out.trans (hb3.mono (by have := HB2.out.size; have := HSz.out; omega)))
    obtain ⟨E, hE⟩ : ∃ E, Pg.chk ⟨np, po, nc, nf, ft, fv, nm, pn, pt, rt, ln, lt, sk, cn, cd⟩ = E := ⟨_, rfl⟩
    rw [hE] at hc ⊢
    have dE : (E != 0) = true := by simpa using hc
    clear hc hE hb3
    go_wp2
    go_ret
    exact ⟨rfl, (HP.out V3 HB3.out).2⟩
  have HB3 : Hid (Below (w.heap.size + 1) W0 V3) := Lib.hid (HB2.out.trans (hb3.mono (by have := HB2.out.size; have := HSz.out; omega)))
  have HL := Lib.hid (lens_of hc)
  have hV2 : w.heap.size + 1 ≤ V2.heap.size := by have := HB2.out.size; have := HSz.out; omega
  have HG : Hid (LB (w.heap.size + 1) V3 g n cap (Pg.bytes ⟨np, po, nc, nf, ft, fv, nm, pn, pt, rt, ln, lt, sk, cn, cd⟩)) := Lib.hid (LB.mono hl hV2)
  have hnp : np ≤ 200 := HL.out.np
  have hnc : nc ≤ 50 := HL.out.nc
  have hnm : nm ≤ 100 := HL.out.nm
  clear hc hl hb3
  obtain ⟨e0, e1, e2⟩ := HX.out V3 HB3.out
  go_wp2
  clear e0 e1 e2
  go_loop [8, 7] (fun ix v => ∃ i x : Nat, i ≤ nc ∧ ix = .int .i64 i ∧ v = .int .i64 x ∧ x ≤ 1607 + 51 * i ∧ Hid (x = 7 + 8 * np + sumN (fun i => 1 + nf i) i)) (fun ix _ => nc - (intOf ix).toNat)
  case atStart => exact ⟨0, 7 + 8 * np, by omega, rfl, by go_num, by omega, Lib.hid rfl⟩
  case round =>
    obtain ⟨i, x, hi, rfl, rfl, hx, HN⟩ := hrel
    obtain ⟨e0, e1, e2⟩ := HX.out _ HB3.out
    by_cases hin : i < nc
    · have gi : (i : Int) < nc := by omega
      have hfi : nf i ≤ 50 := HL.out.nf i hin
      rcases (show Row1 _ ca nc (fun i => .slice (fa i) (nf i) (fc i)) from (HP.out _ HB3.out).1.k) with h0 | ⟨b, o, rfl, hb, hc⟩
      · exact absurd h0 (by omega)
      have c0 := hc i hin
      clear hc
      dsimp only at c0
      go_wp2
      exact ⟨⟨i + 1, x + 1 + nf i, by omega, by go_num, by go_num, by omega, Lib.hid (by show x + 1 + nf i = 7 + 8 * np + (sumN (fun i => 1 + nf i) i + (1 + nf i)); have := HN.out; omega)⟩, by simp [intOf]; omega⟩
    · have hni : nc = i := by omega
      subst hni
      go_wp2
      clear e0 e1 e2
      go_loopw [9, 7] (fun ix v wr' => ∃ j y : Nat, j ≤ nm ∧ ix = .int .i64 j ∧ v = .int .i64 y ∧ y ≤ 4157 + 4150 * j ∧ Hid (y = x + sumN (fun i => 6 + pn i + ln i + cn i) j) ∧ Hid (Below V3.heap.size V3 wr')) (fun ix _ _ => nm - (intOf ix).toNat)
      case atStart => exact ⟨0, x, by omega, rfl, rfl, by omega, Lib.hid rfl, Lib.hid (Below.refl _ _)⟩
      case round =>
        obtain ⟨j, y, hj, rfl, rfl, hy, HM, HQ⟩ := hrel
        have HB4 : Hid (Below (w.heap.size + 1) W0 wr) := Lib.hid (HB3.out.trans (HQ.out.mono (by have := HB3.out.size; have := HSz.out; omega)))
        obtain ⟨e0, e1, e2⟩ := HX.out _ HB4.out
        by_cases hjn : j < nm
        · have gj : (j : Int) < nm := by omega
          have hlm : pn j + ln j ≤ 40 := (HL.out.m j hjn).1
          have hcn : cn j ≤ 4096 := (HL.out.m j hjn).2.1
          rcases (show Row5 wr ma nm (fun i => .slice (ppa i) (pn i) (ppc i)) (fun i => .int .i64 (rt i)) (fun i => .slice (lla i) (ln i) (llc i)) (fun i => .int .i64 (sk i)) (fun i => .slice (cda i) (cn i) (cdc i)) from (HP.out _ HB4.out).1.m) with h0 | ⟨b, o, rfl, hb, hc⟩
          · exact absurd h0 (by omega)
          obtain ⟨c0, c1, c2, c3, c4⟩ := hc j hjn
          clear hc
          dsimp only at c0 c1 c2 c3 c4
          go_wp2
          exact ⟨⟨j + 1, y + (6 + pn j + ln j + cn j), by omega, by go_num, by go_num, by omega, Lib.hid (by show y + (6 + pn j + ln j + cn j) = x + (sumN (fun i => 6 + pn i + ln i + cn i) j + (6 + pn j + ln j + cn j)); have := HM.out; omega), Lib.hid (HQ.out.alloc HQ.out.size _)⟩, by simp [intOf]; omega⟩
        · have hnj : nm = j := by omega
          subst hnj
          have hny : n = y := by
            have h1 := HG.out.1
            rw [bytes_len] at h1
            have h2 := HN.out
            have h3 := HM.out
            dsimp only at h1
            omega
          subst hny
          clear HN HM
          have HG4 : Hid (LB (w.heap.size + 1) wr g n cap (Pg.bytes ⟨np, po, nc, nf, ft, fv, nm, pn, pt, rt, ln, lt, sk, cn, cd⟩)) := Lib.hid (HG.out.below HQ.out rfl)
          by_cases a1 : at_ < 0
          · have da : decide (at_ < 0) = true := decide_eq_true a1
            go_wp2
            go_ret
            exact ⟨rfl, (HP.out _ HB4.out).2⟩
          have da : decide (at_ < 0) = false := decide_eq_false a1
          by_cases a2 : (np : Int) ≤ at_
          · have db : decide ((np : Int) ≤ at_) = true := decide_eq_true a2
            go_wp2
            go_ret
            exact ⟨rfl, (HP.out _ HB4.out).2⟩
          obtain ⟨a, rfl⟩ : ∃ a : Nat, at_ = a := ⟨at_.toNat, by omega⟩
          have ha : a < np := by omega
          have db : decide ((np : Int) ≤ (a : Int)) = false := decide_eq_false a2
          have HC : Hid (∀ k, k < 8 → wr.cell? ⟨g, 5 + 8 * a + k, none⟩ = some (.int .u8 (po a / 2 ^ (8 * k) % 256))) := Lib.hid fun k hk => HG4.out.cell (bytes_at ⟨np, po, nc, nf, ft, fv, nm, pn, pt, rt, ln, lt, sk, cn, cd⟩ a k ha hk)
          have hlen : 5 + 8 * a + 8 ≤ n := by
            have h1 := (List.getElem?_eq_some_iff.1 (bytes_at ⟨np, po, nc, nf, ft, fv, nm, pn, pt, rt, ln, lt, sk, cn, cd⟩ a 7 ha (by decide))).1
            have h2 := HG4.out.1
            omega
          go_wp2
          clear e1 e2 da db
          have HPo := Lib.hid (HFit.out.po a ha)
          obtain ⟨x0, hx0⟩ : ∃ x, po a / 2 ^ (8 * 0) % 256 = x := ⟨_, rfl⟩
          have c0 : wr.cell? ⟨g, 5 + 8 * a, none⟩ = some (.int .u8 x0) := by rw [← hx0]; exact HC.out 0 (by decide)
          have b0 : 0 ≤ x0 ∧ x0 < 256 := by rw [← hx0]; omega
          have HX0 := Lib.hid hx0
          clear hx0
          obtain ⟨x1, hx1⟩ : ∃ x, po a / 2 ^ (8 * 1) % 256 = x := ⟨_, rfl⟩
          have c1 : wr.cell? ⟨g, 5 + 8 * a + 1, none⟩ = some (.int .u8 x1) := by rw [← hx1]; exact HC.out 1 (by decide)
          have b1 : 0 ≤ x1 ∧ x1 < 256 := by rw [← hx1]; omega
          have HX1 := Lib.hid hx1
          clear hx1
          obtain ⟨x2, hx2⟩ : ∃ x, po a / 2 ^ (8 * 2) % 256 = x := ⟨_, rfl⟩
          have c2 : wr.cell? ⟨g, 5 + 8 * a + 2, none⟩ = some (.int .u8 x2) := by rw [← hx2]; exact HC.out 2 (by decide)
          have b2 : 0 ≤ x2 ∧ x2 < 256 := by rw [← hx2]; omega
          have HX2 := Lib.hid hx2
          clear hx2
          obtain ⟨x3, hx3⟩ : ∃ x, po a / 2 ^ (8 * 3) % 256 = x := ⟨_, rfl⟩
          have c3 : wr.cell? ⟨g, 5 + 8 * a + 3, none⟩ = some (.int .u8 x3) := by rw [← hx3]; exact HC.out 3 (by decide)
          have b3 : 0 ≤ x3 ∧ x3 < 256 := by rw [← hx3]; omega
          have HX3 := Lib.hid hx3
          clear hx3
          obtain ⟨x4, hx4⟩ : ∃ x, po a / 2 ^ (8 * 4) % 256 = x := ⟨_, rfl⟩
          have c4 : wr.cell? ⟨g, 5 + 8 * a + 4, none⟩ = some (.int .u8 x4) := by rw [← hx4]; exact HC.out 4 (by decide)
          have b4 : 0 ≤ x4 ∧ x4 < 256 := by rw [← hx4]; omega
          have HX4 := Lib.hid hx4
          clear hx4
          obtain ⟨x5, hx5⟩ : ∃ x, po a / 2 ^ (8 * 5) % 256 = x := ⟨_, rfl⟩
          have c5 : wr.cell? ⟨g, 5 + 8 * a + 5, none⟩ = some (.int .u8 x5) := by rw [← hx5]; exact HC.out 5 (by decide)
          have b5 : 0 ≤ x5 ∧ x5 < 256 := by rw [← hx5]; omega
          have HX5 := Lib.hid hx5
          clear hx5
          obtain ⟨x6, hx6⟩ : ∃ x, po a / 2 ^ (8 * 6) % 256 = x := ⟨_, rfl⟩
          have c6 : wr.cell? ⟨g, 5 + 8 * a + 6, none⟩ = some (.int .u8 x6) := by rw [← hx6]; exact HC.out 6 (by decide)
          have b6 : 0 ≤ x6 ∧ x6 < 256 := by rw [← hx6]; omega
          have HX6 := Lib.hid hx6
          clear hx6
          obtain ⟨x7, hx7⟩ : ∃ x, po a / 2 ^ (8 * 7) % 256 = x := ⟨_, rfl⟩
          have c7 : wr.cell? ⟨g, 5 + 8 * a + 7, none⟩ = some (.int .u8 x7) := by rw [← hx7]; exact HC.out 7 (by decide)
          have b7 : 0 ≤ x7 ∧ x7 < 256 := by rw [← hx7]; omega
          have HX7 := Lib.hid hx7
          clear hx7
          refine wp_loop_rounds 9 ?_
          obtain ⟨v7, hv7⟩ : ∃ v, v = x7 := ⟨_, rfl⟩
          have hor : bits BinOp.or IntKind.u64 0 x7 = v7 := by rw [hv7]; have := or_byte 0 x7 (by omega) (by omega) b7.1 b7.2; simpa using this
          have w7 : 0 ≤ v7 ∧ v7 < 256 := by omega
          have HV7 := Lib.hid hv7
          clear hv7
          rw [rounds_succ]
          go_wp2
          clear hor c7
          obtain ⟨v6, hv6⟩ : ∃ v, v = v7 * 256 + x6 := ⟨_, rfl⟩
          have hor : bits BinOp.or IntKind.u64 (v7 * 256) x6 = v6 := by rw [hv6]; exact or_byte v7 x6 (by omega) (by omega) b6.1 b6.2
          have w6 : 0 ≤ v6 ∧ v6 < 65536 := by omega
          have HV6 := Lib.hid hv6
          clear hv6
          rw [rounds_succ]
          go_wp2
          clear hor c6
          obtain ⟨v5, hv5⟩ : ∃ v, v = v6 * 256 + x5 := ⟨_, rfl⟩
          have hor : bits BinOp.or IntKind.u64 (v6 * 256) x5 = v5 := by rw [hv5]; exact or_byte v6 x5 (by omega) (by omega) b5.1 b5.2
          have w5 : 0 ≤ v5 ∧ v5 < 16777216 := by omega
          have HV5 := Lib.hid hv5
          clear hv5
          rw [rounds_succ]
          go_wp2
          clear hor c5
          obtain ⟨v4, hv4⟩ : ∃ v, v = v5 * 256 + x4 := ⟨_, rfl⟩
          have hor : bits BinOp.or IntKind.u64 (v5 * 256) x4 = v4 := by rw [hv4]; exact or_byte v5 x4 (by omega) (by omega) b4.1 b4.2
          have w4 : 0 ≤ v4 ∧ v4 < 4294967296 := by omega
          have HV4 := Lib.hid hv4
          clear hv4
          rw [rounds_succ]
          go_wp2
          clear hor c4
          obtain ⟨v3, hv3⟩ : ∃ v, v = v4 * 256 + x3 := ⟨_, rfl⟩
          have hor : bits BinOp.or IntKind.u64 (v4 * 256) x3 = v3 := by rw [hv3]; exact or_byte v4 x3 (by omega) (by omega) b3.1 b3.2
          have w3 : 0 ≤ v3 ∧ v3 < 1099511627776 := by omega
          have HV3 := Lib.hid hv3
          clear hv3
          rw [rounds_succ]
          go_wp2
          clear hor c3
          obtain ⟨v2, hv2⟩ : ∃ v, v = v3 * 256 + x2 := ⟨_, rfl⟩
          have hor : bits BinOp.or IntKind.u64 (v3 * 256) x2 = v2 := by rw [hv2]; exact or_byte v3 x2 (by omega) (by omega) b2.1 b2.2
          have w2 : 0 ≤ v2 ∧ v2 < 281474976710656 := by omega
          have HV2 := Lib.hid hv2
          clear hv2
          rw [rounds_succ]
          go_wp2
          clear hor c2
          obtain ⟨v1, hv1⟩ : ∃ v, v = v2 * 256 + x1 := ⟨_, rfl⟩
          have hor : bits BinOp.or IntKind.u64 (v2 * 256) x1 = v1 := by rw [hv1]; exact or_byte v2 x1 (by omega) (by omega) b1.1 b1.2
          have w1 : 0 ≤ v1 ∧ v1 < 72057594037927936 := by omega
          have HV1 := Lib.hid hv1
          clear hv1
          rw [rounds_succ]
          go_wp2
          clear hor c1
          obtain ⟨v0, hv0⟩ : ∃ v, v = v1 * 256 + x0 := ⟨_, rfl⟩
          have hor : bits BinOp.or IntKind.u64 (v1 * 256) x0 = v0 := by rw [hv0]; exact or_byte v1 x0 (by omega) (by omega) b0.1 b0.2
          have w0 : 0 ≤ v0 ∧ v0 < 18446744073709551616 := by omega
          have HV0 := Lib.hid hv0
          clear hv0
          rw [rounds_succ]
          go_wp2
          clear hor c0
          rcases (show Row1 wr pa np (fun i => .int .i64 (po i)) from (HP.out _ HB4.out).1.p) with h0 | ⟨bb, oo, rfl, hbb, hcc⟩
          · exact absurd h0 (by omega)
          have cp : wr.cell? ⟨bb, oo + a, none⟩ = some (.int .i64 (po a)) := hcc a ha
          clear hcc
          have hw : IntKind.i64.wrap v0 = po a := wrap_back HPo.out.1 HPo.out.2 HX0.out HX1.out HX2.out HX3.out HX4.out HX5.out HX6.out HX7.out (by rw [HV0.out, HV1.out, HV2.out, HV3.out, HV4.out, HV5.out, HV6.out, HV7.out])
          rw [rounds_succ]
          go_wp2
          go_ret
          exact ⟨rfl, (HP.out _ HB4.out).2⟩
end Go.Proofs.Ytpiafgmncfibmaa
