import Derived.Test.YtpjfjdncdiemlaaRows
import Derived.WalkKit
import Derived.ProofKit
import Derived.OpenShut
import Derived.Deep.QuietTactic
import Derived.BigQuiet
import Derived.Outline
import Derived.WalkSmall
import Derived.WalkLawsBesides
import Derived.WalkSpells
import Derived.BigGuardPart
import Derived.RegionTactic
import Derived.Deep.RegionHeld3
import Derived.Lib.Hide
import Derived.Deep.MidRow
import Derived.Below
import Derived.Deep.RegionWith
import Derived.Test.YtpjfjdncdiemlaaSmC
import Derived.Test.YtpjfjdncdiemlaaSmZ
import Derived.Test.YtpjfjdncdiemlaaSmS
import Derived.Test.YtpjfjdncdiemlaaSmQ
import Derived.Maps.AppendAt
import Derived.Deep.RegionLaw
import Derived.Deep.OwnRows
import Derived.Deep.AppendLies
import Derived.Laws.BitsAllLaws
import Derived.Laws.BitsLemmas
namespace Go.Proofs.Ytpjfjdncdiemlaa
open Go.ChangeShapes Go.WideShapes Go.ChangeAt Go.RowKit
set_option linter.unusedVariables false



theorem and_mask (x : Int) (h1 : 0 ≤ x) (h2 : x < 18446744073709551616) : bits .and .u64 x 65535 = x % 65536 := by
  obtain ⟨X, rfl⟩ := Int.eq_ofNat_of_zero_le h1
  have hx : X &&& 65535 < 2 ^ 64 := Nat.and_lt_two_pow _ (by decide)
  show IntKind.u64.wrap ((BitVec.ofInt 64 (X : Int) &&& BitVec.ofInt 64 ((65535 : Nat) : Int)).toNat : Int) = _
  rw [BitVec.toNat_and, ofInt_u64 X (by omega), ofInt_u64 65535 (by decide), IntKind.wrap_u64, show (65535 : Nat) = 2 ^ 16 - 1 by decide, Nat.and_two_pow_sub_one_eq_mod]
  omega
theorem imm_eq (v : Int) (p : Nat) (hp : p < 4) (v1 : 0 ≤ v) (v2 : v < 18446744073709551616) : wrap64 (bits .and .u64 (v / 2 ^ (16 * p)) 65535) = v / pw p % 65536 := by
  have hb : 0 ≤ v / pw p ∧ v / pw p < 18446744073709551616 := by
    match p, hp with
    | 0, _ => simp only [pw]; omega
    | 1, _ => simp only [pw]; omega
    | 2, _ => simp only [pw]; omega
    | 3, _ => simp only [pw]; omega
    | k + 4, h => exact absurd h (by omega)
  have e : (2 : Int) ^ (16 * p) = pw p := by
    match p, hp with
    | 0, _ => simp [pw]
    | 1, _ => simp [pw]
    | 2, _ => simp [pw]
    | 3, _ => simp [pw]
    | k + 4, h => exact absurd h (by omega)
  rw [e, and_mask _ hb.1 hb.2]
  clear e
  unfold wrap64
  omega
theorem Rg.get_set (r : Rg) (d x : Int) (h1 : 0 ≤ d) (h2 : d ≤ 30) : (r.set d x).get d = x := by
  obtain ⟨D, rfl⟩ := Int.eq_ofNat_of_zero_le h1
  rw [Rg.set_x _ _ _ (by omega), Rg.get_x _ _ (by omega)]
  simp [Rg.setX]
theorem Rg.set_set (r : Rg) (d x y : Int) (h1 : 0 ≤ d) (h2 : d ≤ 30) : (r.set d x).set d y = r.set d y := by
  obtain ⟨D, rfl⟩ := Int.eq_ofNat_of_zero_le h1
  rw [Rg.set_x _ _ _ (by omega), Rg.set_x _ _ _ (by omega), Rg.set_x _ _ _ (by omega)]
  unfold Rg.setX
  congr 1
  funext i
  by_cases e : i = D <;> simp [e]

theorem info3 : (Try.prog.info? 3).map (fun i => (i.zero, i.size, i.bytes)) = some (some (.int .i64 0), 1, 8) := by kernel_rfl
theorem own_grown {B b : Nat} {e : TypeId} {k : Nat} {v : Value} {n : Nat} {xs : List Value} {w w' : World} (h : w.ownsRow B e k v n xs) (hg : w.grownBy w' (some b)) (hb : b < B) : w'.ownsRow B e k v n xs := by
  obtain ⟨h1, h2⟩ := h
  refine ⟨h1, ?_⟩
  rcases h2 with h2 | ⟨g, cap, cur, hv, hB, hh, r⟩
  · exact Or.inl h2
  · exact Or.inr ⟨g, cap, cur, hv, hB, (hg.block g (Array.getElem?_eq_some_iff.1 hh).1 (fun e => by injection e with e; omega)).trans hh, r⟩
theorem own_below' {B : Nat} {e : TypeId} {k : Nat} {v : Value} {n : Nat} {xs : List Value} {w W w' : World} (h : w.ownsRow B e k v n xs) (hb : Below W.heap.size W w') (he : W.heap = w.heap) : w'.ownsRow B e k v n xs := by
  obtain ⟨h1, h2⟩ := h
  refine ⟨h1, ?_⟩
  rcases h2 with h2 | ⟨g, cap, cur, hv, hg, hh, r⟩
  · exact Or.inl h2
  · exact Or.inr ⟨g, cap, cur, hv, hg, (hb.block g (by rw [he]; exact (Array.getElem?_eq_some_iff.1 hh).1)).trans (by rw [he]; exact hh), r⟩
theorem rowAt_by {w w' : World} {b : Nat} {C : Array Value} {row : Option Nat} (h : rowAt w b = some C) (hg : w.grownBy w' row) (hne : row ≠ some b) : rowAt w' b = some C := by
  obtain ⟨t, ht⟩ := rowAt_heap h
  exact rowAt_of ((hg.block b (rowAt_lt h) (Ne.symm hne)).trans ht)
/-- A number of parts, as the slice has them. -/
def nums (L : List Nat) : List Value := L.map fun p => .int .i64 (p : Nat)
theorem nums_one (L : List Nat) : ∀ u ∈ nums L, u.oneCell' = true := fun u hu => by obtain ⟨p, _, rfl⟩ := List.mem_map.1 hu; rfl
theorem nums_at (L : List Nat) (k : Nat) (hk : k < L.length) : (nums L)[k]? = some (.int .i64 (L[k] : Nat)) := by
  unfold nums; rw [List.getElem?_map, List.getElem?_eq_getElem hk]; rfl
theorem own_start (w : World) : (w.alloc (.cells #[.int .i64 0, .int .i64 1, .int .i64 2, .int .i64 3] 3)).ownsRow w.heap.size 3 1 (.slice (some ⟨w.heap.size, 0, none⟩) 4 4) 4 (nums [0, 1, 2, 3]) :=
  ⟨rfl, .inr ⟨w.heap.size, 4, _, rfl, Nat.le_refl _, heap_alloc_new w _, Nat.le_refl _, by unfold maxLen; decide, rfl, rfl⟩⟩
theorem rows_of' {w : World} {g n cp base size : Nat} {e : TypeId} {xs : List Value} (h : w.ownsRow base e size (.slice (some ⟨g, 0, none⟩) n cp) n xs) : base ≤ g ∧ n ≤ cp ∧ (∀ p u, xs[p]? = some u → w.cell? ⟨g, p, none⟩ = some u) ∧ (∀ p, w.frozen? ⟨g, p, none⟩ = false) := by
  rcases h.2 with ⟨h1, _⟩ | ⟨g', cap, cur, hv, hb, hg, hn, hm, hs, ht⟩
  · cases h1
  · injection hv with h1 h2 h3
    injection h1 with h1
    injection h1 with h1
    subst h1 h3
    refine ⟨hb, hn, fun p u hu => ?_, fun p => frozen_of_row w g p cur e hg⟩
    rw [cell_of_row w g p cur e _ hg]
    rw [← ht] at hu
    rw [List.getElem?_take] at hu
    split at hu
    · simpa using hu
    · cases hu
theorem own_norm {w : World} {B k : Nat} {v : Value} {xs : List Value} (h : w.ownsRow B 3 1 v (0 + k) ([] ++ xs)) : w.ownsRow B 3 1 v k xs := by simpa using h
theorem news2 {wr wa : World} {g k : Nat} {xs ys : List Value} (hc : ∀ p u, xs[p]? = some u → wr.cell? ⟨g, p, none⟩ = some u) (hg : g < wr.heap.size) (hn : ∀ i u, ys[i]? = some u → xs[k + 1 + i]? = some u)
    (hgra : (wr.alloc (.cells #[] 3)).drew.grownBy wa (Value.slice (some ⟨wr.heap.size, 0, none⟩) 0 0).ownBlock) : ∀ i u, ys[i]? = some u → wa.cell? ((⟨g, k + 1, none⟩ : Addr).add i) = some u := fun i u hu => by
  rw [Addr.add_mid]
  refine (hgra.cell_far ⟨g, k + 1 + i, none⟩ (by show g < (wr.alloc (.cells #[] 3)).heap.size; rw [World.size_alloc]; omega) (by simp [Value.ownBlock]; omega)).trans ?_
  exact (World.cell?_alloc_past _ _ _ hg).trans (hc _ _ (hn i u hu))
theorem after18 {w wr wa wb : World} {B b6 b9 k m : Nat} {C6 C9 : Array Value} {va vb : Value} {xs ys : List Value} (h6 : rowAt wr b6 = some C6) (h9 : rowAt wr b9 = some C9) (l6 : b6 < B) (l9 : b9 < B) (hB : B ≤ wr.heap.size) (hb : Below w.heap.size w wr) (hwB : w.heap.size ≤ B)
    (hga : (wr.alloc (.cells #[] 3)).drew.grownBy wa (Value.slice (some ⟨wr.heap.size, 0, none⟩) 0 0).ownBlock) (ha : wa.ownsRow B 3 1 va k xs) (hgb : wa.grownBy wb va.ownBlock) (hob : wb.ownsRow B 3 1 vb m ys) :
    rowAt wb b6 = some C6 ∧ rowAt wb b9 = some C9 ∧ Below w.heap.size w wb := by
  have a0 : ∀ b C, rowAt wr b = some C → b < B → rowAt wa b = some C := fun b C h hl => rowAt_by (w := (wr.alloc (.cells #[] 3)).drew) (rowAt_past h (.cells #[] 3)) hga (by simp [Value.ownBlock]; omega)
  have b0 : ∀ b C, rowAt wa b = some C → b < B → rowAt wb b = some C := fun b C h hl => rowAt_by h hgb (fun e => by have := (World.ownsRow.lt ha b e).1; omega)
  have hd : Below w.heap.size w (wr.alloc (.cells #[] 3)).drew := (hb.alloc hb.size _).drew
  have h1 : Below w.heap.size w wa := hd.grown hga hd.size (fun q hq => by simp [Value.ownBlock] at hq; omega)
  exact ⟨b0 _ _ (a0 _ _ h6 l6) l6, b0 _ _ (a0 _ _ h9 l9) l9, h1.grown hgb h1.size (fun q hq => by have := (World.ownsRow.lt ha q hq).1; omega)⟩
theorem nums_wo (L : List Nat) (k : Nat) : nums (L.take k) ++ nums (L.drop (k + 1)) = nums (L.take k ++ L.drop (k + 1)) := by simp [nums]
theorem step_app {P : Program} {w : World} {ops : Array Oper} {o : Oper} {a : Act} {K : Act → World → Prop} {Q : Exit → Act → World → Prop} {E : Prop} (hgd : o.guard = none) (s x : Operand) (t : TypeId)
    (ho : o.op = .call { callee := .builtin .append, args := #[s, x], argTypes := #[t, t] })
    (base : Nat) (e : TypeId) (i : TypeInfo) (z : Value) (size bytes : Nat) (ht : P.underlying t = some (.slice e)) (hi : P.info? e = some i) (hz : i.zero = some z)
    (hsize : i.size = size) (hby : i.bytes = bytes) (hzs : z.cells.size = size) (hsz : 0 < size)
    (v : Value) (n : Nat) (xs : List Value) (hs : a.eval s = v) (hown : w.ownsRow base e size v n xs)
    (ad : Addr) (m c : Nat) (news : List Value) (hx : a.eval x = .slice (some ad) m c) (hl : news.length = m * size) (hnews : ∀ j u, news[j]? = some u → w.cell? (ad.add j) = some u) (h1 : ∀ u ∈ news, u.oneCell' = true)
    (h63 : n + m ≤ maxLen) (hbytes : (n + m) * bytes ≤ 140737488355328) (hbase : base ≤ w.heap.size)
    (h : ∀ v' w', w'.ownsRow base e size v' (n + m) (xs ++ news) → w.grownBy w' v.ownBlock → K (a.put o.dst v') w') :
    if Region.wanted o (yielded ops a.tmps) = true then Oper.wp P o a w K Q else E := by
  have hw : Region.wanted o (yielded ops a.tmps) = true := by simp [Region.wanted, hgd]
  rw [if_pos hw]
  obtain ⟨v', w', hr, h2, h3, _, _⟩ := run_append_own_at (P := P) w base t o.type e i z size bytes ht hi hz hsize hby hzs hsz v n xs hown ad m c news hl hnews h1 h63 hbytes hbase
  unfold Oper.wp execOp
  simp only [ho, resolve, invoke, builtin, Sem.run_bind, Sem.run_pure, Result.andThen_ok, List.map_toArray, List.map_cons, List.map_nil, hs, hx, hr]
  exact h v' w' h2 h3
attribute [local go_sem ↓] ld76 ld25 ld38 eql25
attribute [local go_sem] rowAt_drew rowAt_drewN field_efo
set_option maxRecDepth 100000 in
set_option maxHeartbeats 8000000 in
theorem parts_c (v d o : Int) (r : Rg) (o0 : Int) (hoo : Hid (0 ≤ o0 ∧ o0 ≤ 9223372036854775807)) (w : World) (v1 : 0 ≤ v) (v2 : v < 18446744073709551616) (d1 : 0 ≤ d) (d2 : d ≤ 30) (hneg : (o < 0 ∧ o0 = 0) ∨ (0 ≤ o ∧ o0 = o)) :
    Calls Try.prog 6 #[.int .u64 v, .int .i64 d, .agg r.arr, .int .i64 o] w fun e w' => e = .returned (.bool true) ∧ Below w.heap.size w w' := by
  obtain ⟨i0, hi, hz0, hz1, hz2⟩ := info_parts info3
  have q1 : decide (d < 0) = false := decide_eq_false (by omega)
  have q2 : decide (30 < d) = false := decide_eq_false (by omega)
  have HR0 : Hid (rowAt (w.alloc (.cells r.arr 25)) w.heap.size = some r.arr) := Lib.hid (rowAt_new _ _ _)
  have HB0 : Hid (Below w.heap.size w (w.alloc (.cells r.arr 25))) := Lib.hid ((Below.refl _ _).alloc (Nat.le_refl _) _)
  rcases hneg with ⟨hn, rfl⟩ | ⟨hn, rfl⟩
  all_goals
    go_enter Try.func6, Try.ntmps6
    go_wp2_with (first | (go_at_call 10; refine (known6_c _).mono ?_; rintro e w1 ⟨rfl, hb⟩; have H6 := Lib.hid (rowAt_below HR0.out hb rfl); have H6a := Lib.hid (rowAt_below HR0.out hb rfl); have HB := Lib.hid (HB0.out.trans (hb.mono HB0.out.size)); have l6 : w.heap.size < w1.heap.size := rowAt_lt H6.out; have HZ := Lib.hid (rowAt_new w1 z36 25); have H6 := Lib.hid (rowAt_past H6.out (.cells z36 25)); have HB := Lib.hid (HB.out.alloc HB.out.size (.cells z36 25)); clear hb) | (refine wpl_load rfl 25 _ rfl w.heap.size 0 rfl r.arr (reg_all H6a.out) ?_) | (refine wpl_store rfl 25 _ _ rfl w1.heap.size r.arr z36 rfl rfl HZ.out (by rw [Rg.size]; exact info25) (by rw [Rg.size]; rfl) (Rg.one _) ?_; intro w3 hrow hg; have H6 := Lib.hid (rowAt_grown H6.out hg (by omega)); have H9 := Lib.hid hrow; have l9 : w1.heap.size < w3.heap.size := rowAt_lt hrow; have HB := Lib.hid (grown_below HB.out hg (by omega)); clear hrow hg))
    have HO := Lib.hid (own_start w3)
    have H6 := Lib.hid (rowAt_past H6.out (.cells #[.int .i64 0, .int .i64 1, .int .i64 2, .int .i64 3] 3))
    have H9 := Lib.hid (rowAt_past H9.out (.cells #[.int .i64 0, .int .i64 1, .int .i64 2, .int .i64 3] 3))
    have HB := Lib.hid (HB.out.alloc HB.out.size (.cells #[.int .i64 0, .int .i64 1, .int .i64 2, .int .i64 3] 3))
    have hwB : w.heap.size ≤ w3.heap.size := by omega
    go_loopw [3, 10, 11] (fun ov lv iv wr => ∃ (j : Nat) (L : List Nat) (q : Int) (R : Rg), iv = .int .i64 j ∧ j ≤ 4 ∧ ov = .int .i64 q ∧ 0 ≤ q ∧ q ≤ 9223372036854775807 ∧ L.length = 4 - j ∧ Hid (L.Nodup ∧ (∀ p ∈ L, p < 4) ∧ (j = 0 → L = [0, 1, 2, 3] ∧ R = r) ∧ (1 ≤ j → R = r.set d (acc v L))) ∧ Hid (rowAt wr w.heap.size = some R.arr) ∧ Hid (rowAt wr w1.heap.size = some r.arr) ∧ Hid (wr.ownsRow w3.heap.size 3 1 lv (4 - j) (nums L)) ∧ Hid (Below w.heap.size w wr)) (fun _ _ iv _ => 4 - (intOf iv).toNat)
    case atStart => exact ⟨0, [0, 1, 2, 3], _, r, rfl, by omega, rfl, by have := hoo.out; omega, by have := hoo.out; omega, rfl, Lib.hid ⟨by decide, by decide, fun _ => ⟨rfl, rfl⟩, fun h => absurd h (by omega)⟩, H6, H9, HO, HB⟩
    case round =>
      obtain ⟨j, L, q, R, rfl, hj, rfl, hq1, hq2, hLl, HP, H6r, H9r, HOr, HBr⟩ := hrel
      clear H6 H9 HO HB H6a HZ HR0 HB0
      by_cases hlt : j < 4
      · obtain ⟨n, hn⟩ : ∃ n, 4 - j = n := ⟨_, rfl⟩
        rw [hn] at HOr hLl
        have n1 : 1 ≤ n := by omega
        have n4 : n ≤ 4 := by omega
        have hj4 : n + j = 4 := by omega
        clear hn
        obtain ⟨g, cap, rfl, hgb, hgl⟩ := HOr.out.form (by omega)
        obtain ⟨_, hcap, hcells, _⟩ := rows_of' HOr.out
        obtain ⟨k, hk⟩ : ∃ k : Nat, q % (n : Int) = k := ⟨(q % (n : Int)).toNat, by have := Int.emod_nonneg q (b := (n : Int)) (by omega); omega⟩
        have kn : k < n := by have := Int.emod_lt_of_pos q (b := (n : Int)) (by omega); omega
        obtain ⟨q', hq'⟩ : ∃ q', q / (n : Int) = q' := ⟨_, rfl⟩
        have q'1 : 0 ≤ q' := by rw [← hq']; exact Int.ediv_nonneg hq1 (by omega)
        have q'2 : q' ≤ q := by rw [← hq']; exact Int.ediv_le_self _ hq1
        have hk2 : q.tmod (n : Int) = k := by rw [Int.tmod_eq_emod_of_nonneg hq1]; exact hk
        have hq2' : q.tdiv (n : Int) = q' := by rw [Int.tdiv_eq_ediv_of_nonneg hq1]; exact hq'
        have nz : ((n : Int) == 0) = false := by simp; omega
        have kz : (0 : Int) ≤ k := by omega
        have kn2 : (k : Int) < n := by omega
        have kL : k < L.length := by omega
        obtain ⟨p, hp⟩ : ∃ p, L[k] = p := ⟨_, rfl⟩
        have hcp : wr.cell? ⟨g, k, none⟩ = some (.int .i64 (p : Nat)) := (hcells k _ (nums_at L k kL)).trans (by rw [hp])
        have HC := Lib.hid hcells
        have HPP := Lib.hid hp
        clear hcells hp
        have kc : (k : Int) ≤ cap := by omega
        have k1 : IntKind.i64.wrap ((k : Int) + 1) = (k : Int) + 1 := by rw [IntKind.wrap_i64]; omega
        have k2 : 0 ≤ (k : Int) + 1 := by omega
        have k3 : ((k : Int) + 1).toNat = k + 1 := by omega
        have k4 : (k : Int) + 1 ≤ n := by omega
        have hbs : w3.heap.size ≤ wr.heap.size := by omega
        have HOM : Hid ((wr.alloc (.cells #[] 3)).drew.ownsRow w3.heap.size 3 1 (.slice (some ⟨wr.heap.size, 0, none⟩) 0 0) 0 []) := Lib.hid (World.ownsRow_made wr #[] 0 hbs (by unfold maxLen; omega) rfl)
        have HBS : Hid (w3.heap.size ≤ (wr.alloc (.cells #[] 3)).drew.heap.size) := Lib.hid (by show _ ≤ (wr.alloc (.cells #[] 3)).heap.size; rw [World.size_alloc]; omega)
        have HL1 : Hid ((nums (L.take k)).length = k * 1) := Lib.hid (by simp [nums]; omega)
        have HL2 : Hid ((nums (L.drop (k + 1))).length = (n - (k + 1)) * 1) := Lib.hid (by simp [nums]; omega)
        have HN1 : Hid (∀ i u, (nums (L.take k))[i]? = some u → (wr.alloc (.cells #[] 3)).drew.cell? ((⟨g, 0, none⟩ : Addr).add i) = some u) := Lib.hid (fun i u hu => by
          rw [Addr.add_mid, Nat.zero_add]
          refine (World.cell?_alloc_past _ _ _ hgl).trans (HC.out i u ?_)
          unfold nums at hu ⊢
          rw [List.map_take, List.getElem?_take] at hu
          split at hu
          · exact hu
          · cases hu)
        have HN2 : Hid (∀ i u, (nums (L.drop (k + 1)))[i]? = some u → (nums L)[k + 1 + i]? = some u) := Lib.hid (fun i u hu => by
          unfold nums at hu ⊢
          rw [List.map_drop, List.getElem?_drop] at hu
          exact hu)
        have hpm := without L k kL HP.out.1
        rw [HPP.out] at hpm
        obtain ⟨pm1, pm2, pm3, pm4⟩ := hpm
        have hp4 : p < 4 := HP.out.2.1 p pm1
        have hstep := acc_step v L (L.take k ++ L.drop (k + 1)) p hp4 pm1 pm2 pm3
        have HIM := Lib.hid (imm_eq v p hp4 v1 v2)
        obtain ⟨im, him⟩ : ∃ im, v / pw p % 65536 = im := ⟨_, rfl⟩
        have im1 : 0 ≤ im := by rw [← him]; omega
        have im2 : im ≤ 65535 := by rw [← him]; omega
        have HST := Lib.hid hstep
        have HIM2 := Lib.hid him
        have HNEXT : Hid ((L.take k ++ L.drop (k + 1)).Nodup ∧ (∀ q ∈ L.take k ++ L.drop (k + 1), q < 4)) := Lib.hid ⟨pm4, fun q hq => HP.out.2.1 q (by by_cases e : q = p; exact (e ▸ pm1); exact (pm3 q e).1 hq)⟩
        have hlen : (L.take k ++ L.drop (k + 1)).length = 4 - (j + 1) := by simp; omega
        have HPM := Lib.hid pm1
        clear hstep him pm1 pm2 pm3 pm4
        by_cases hcapk : cap = k + 1
        · obtain rfl : cap = n := by omega
          have kn1 : (k : Int) + 1 = cap := by omega
          have k1 : IntKind.i64.wrap (cap : Int) = cap := by rw [← kn1]; exact k1
          have hkn := Lib.hid hcapk
          have hkn1 : cap ≤ k + 1 := by omega
          clear hcapk
          by_cases hj0 : j = 0
          · subst hj0
            have HPZ := Lib.hid (HP.out.2.2.1 rfl)
            have HL0 : Hid ((nums (L.drop (k + 1))).length = 0 * 1) := Lib.hid (by simp [nums]; omega)
            have hn0 : Hid (∀ (wx : World) i u, (nums (L.drop (k + 1)))[i]? = some u → wx.cell? ((⟨g, 0, none⟩ : Addr).add i) = some u) := Lib.hid (fun wx i u hu => absurd (List.getElem?_eq_some_iff.1 hu).1 (by rw [HL0.out]; omega))
            go_wp2
            go_region_law (first | (refine step_app (by rfl) _ _ _ (by rfl) w3.heap.size 3 i0 _ 1 8 Try.underlying35 hi hz0 hz1 hz2 rfl (by decide) (.slice (some ⟨wr.heap.size, 0, none⟩) 0 0) 0 [] (by rfl) HOM.out ⟨g, 0, none⟩ k cap (nums (L.take k)) (by rfl) HL1.out HN1.out (nums_one _) (by unfold maxLen; omega) (by omega) HBS.out ?_; intro va wa howna hgra; have howna' := Lib.hid (own_norm howna); have HGA := Lib.hid hgra; have hn2 := Lib.hid (news2 HC.out hgl HN2.out hgra); have HBW := Lib.hid (Nat.le_trans HBS.out hgra.size); clear howna hgra) | (refine step_app (by rfl) _ _ _ (by rfl) w3.heap.size 3 i0 _ 1 8 Try.underlying35 hi hz0 hz1 hz2 rfl (by decide) va k (nums (L.take k)) (by rfl) howna'.out ⟨g, 0, none⟩ 0 0 (nums (L.drop (k + 1))) (by rfl) HL0.out (hn0.out _) (nums_one _) (by unfold maxLen; omega) (by omega) HBW.out ?_; intro vb wb hownb hgrb))
            obtain ⟨h6b, h9b, hbb⟩ := after18 H6r.out H9r.out (by omega) (by omega) hbs HBr.out hwB HGA.out howna'.out hgrb hownb
            rw [nums_wo, show k + 0 = 4 - (0 + 1) by omega] at hownb
            have H6b := Lib.hid h6b
            have H9b := Lib.hid h9b
            have HBb := Lib.hid hbb
            have HOb := Lib.hid hownb
            clear h6b h9b hbb hownb hgrb howna' HGA hn2 HBW HN1 HN2 HL1 HL2 HOM HBS hcp HC k1 k2 k3 kn1
            go_wp2_with (first | (refine wpl_load rfl 25 _ rfl w.heap.size 0 rfl R.arr (reg_all H6b.out) ?_))
            rw [HIM.out, HIM2.out]
            refine (do_mz d im p hp4 R (r.set d (acc v (L.take k ++ L.drop (k + 1)))) (Lib.hid (by rw [HST.out, HIM2.out, HPZ.out.1, acc_all, HPZ.out.2, Int.zero_add])) _ d1 d2 im1 im2).mono ?_
            rintro e wc ⟨rfl, hbc⟩
            have H6c := Lib.hid (rowAt_below H6b.out hbc rfl)
            have H9c := Lib.hid (rowAt_below H9b.out hbc rfl)
            have HOc := Lib.hid (own_below' HOb.out hbc rfl)
            have HBc := Lib.hid (HBb.out.trans (hbc.mono HBb.out.size))
            clear hbc
            go_wp2_with (first | (refine wpl_store rfl 25 _ _ rfl w.heap.size (r.set d (acc v (L.take k ++ L.drop (k + 1)))).arr R.arr rfl rfl H6c.out (by rw [Rg.size]; exact info25) (by rw [Rg.size, Rg.size]) (Rg.one _) ?_; intro wd hrow hg; have H6d := Lib.hid hrow; have H9d := Lib.hid (rowAt_grown H9c.out hg (by omega)); have HOd := Lib.hid (own_grown HOc.out hg (by omega)); have HBd := Lib.hid (grown_below HBc.out hg (Nat.le_refl _)); clear hrow hg))
            go_roundw
            case rel => exact ⟨0 + 1, L.take k ++ L.drop (k + 1), q', r.set d (acc v (L.take k ++ L.drop (k + 1))), by go_num, by omega, rfl, q'1, by omega, hlen, Lib.hid ⟨HNEXT.out.1, HNEXT.out.2, fun h => absurd h (by omega), fun _ => rfl⟩, H6d, H9d, HOd, HBd⟩
            case measure => simp [intOf]
          · have hjz : ((j : Int) == 0) = false := by simp; omega
            have HL0 : Hid ((nums (L.drop (k + 1))).length = 0 * 1) := Lib.hid (by simp [nums]; omega)
            have hn0 : Hid (∀ (wx : World) i u, (nums (L.drop (k + 1)))[i]? = some u → wx.cell? ((⟨g, 0, none⟩ : Addr).add i) = some u) := Lib.hid (fun wx i u hu => absurd (List.getElem?_eq_some_iff.1 hu).1 (by rw [HL0.out]; omega))
            go_wp2
            go_region_law (first | (refine step_app (by rfl) _ _ _ (by rfl) w3.heap.size 3 i0 _ 1 8 Try.underlying35 hi hz0 hz1 hz2 rfl (by decide) (.slice (some ⟨wr.heap.size, 0, none⟩) 0 0) 0 [] (by rfl) HOM.out ⟨g, 0, none⟩ k cap (nums (L.take k)) (by rfl) HL1.out HN1.out (nums_one _) (by unfold maxLen; omega) (by omega) HBS.out ?_; intro va wa howna hgra; have howna' := Lib.hid (own_norm howna); have HGA := Lib.hid hgra; have hn2 := Lib.hid (news2 HC.out hgl HN2.out hgra); have HBW := Lib.hid (Nat.le_trans HBS.out hgra.size); clear howna hgra) | (refine step_app (by rfl) _ _ _ (by rfl) w3.heap.size 3 i0 _ 1 8 Try.underlying35 hi hz0 hz1 hz2 rfl (by decide) va k (nums (L.take k)) (by rfl) howna'.out ⟨g, 0, none⟩ 0 0 (nums (L.drop (k + 1))) (by rfl) HL0.out (hn0.out _) (nums_one _) (by unfold maxLen; omega) (by omega) HBW.out ?_; intro vb wb hownb hgrb))
            obtain ⟨h6b, h9b, hbb⟩ := after18 H6r.out H9r.out (by omega) (by omega) hbs HBr.out hwB HGA.out howna'.out hgrb hownb
            rw [nums_wo, show k + 0 = 4 - (j + 1) by omega] at hownb
            have H6b := Lib.hid h6b
            have H9b := Lib.hid h9b
            have HBb := Lib.hid hbb
            have HOb := Lib.hid hownb
            clear h6b h9b hbb hownb hgrb howna' HGA hn2 HBW HN1 HN2 HL1 HL2 HOM HBS hcp HC k1 k2 k3 kn1
            go_wp2_with (first | (refine wpl_load rfl 25 _ rfl w.heap.size 0 rfl R.arr (reg_all H6b.out) ?_))
            rw [HIM.out, HIM2.out]
            have hRg : R.get d = acc v L := by rw [HP.out.2.2.2 (by omega)]; exact r.get_set d _ d1 d2
            have HRG := Lib.hid hRg
            refine (do_mk d im p hp4 R (r.set d (acc v (L.take k ++ L.drop (k + 1)))) (Lib.hid (by rw [HRG.out, HST.out, HIM2.out, HP.out.2.2.2 (by omega), r.set_set d _ _ d1 d2])) _ d1 d2 im1 im2 (by rw [HRG.out]; exact (acc_bd v L).1) (by rw [HRG.out]; exact (acc_bd v L).2) (by rw [HRG.out]; exact acc_field v L p hp4 HPM.out)).mono ?_
            rintro e wc ⟨rfl, hbc⟩
            have H6c := Lib.hid (rowAt_below H6b.out hbc rfl)
            have H9c := Lib.hid (rowAt_below H9b.out hbc rfl)
            have HOc := Lib.hid (own_below' HOb.out hbc rfl)
            have HBc := Lib.hid (HBb.out.trans (hbc.mono HBb.out.size))
            clear hbc
            go_wp2_with (first | (refine wpl_store rfl 25 _ _ rfl w.heap.size (r.set d (acc v (L.take k ++ L.drop (k + 1)))).arr R.arr rfl rfl H6c.out (by rw [Rg.size]; exact info25) (by rw [Rg.size, Rg.size]) (Rg.one _) ?_; intro wd hrow hg; have H6d := Lib.hid hrow; have H9d := Lib.hid (rowAt_grown H9c.out hg (by omega)); have HOd := Lib.hid (own_grown HOc.out hg (by omega)); have HBd := Lib.hid (grown_below HBc.out hg (Nat.le_refl _)); clear hrow hg))
            go_roundw
            case rel => exact ⟨j + 1, L.take k ++ L.drop (k + 1), q', r.set d (acc v (L.take k ++ L.drop (k + 1))), by go_num, by omega, rfl, q'1, by omega, hlen, Lib.hid ⟨HNEXT.out.1, HNEXT.out.2, fun h => absurd h (by omega), fun _ => rfl⟩, H6d, H9d, HOd, HBd⟩
            case measure => simp [intOf]; omega
        · have c1 : (((cap : Nat) : Int) - ((k : Int) + 1) == 0) = false := by simp; omega
          by_cases hj0 : j = 0
          · subst hj0
            have HPZ := Lib.hid (HP.out.2.2.1 rfl)
            go_wp2
            go_region_law (first | (refine step_app (by rfl) _ _ _ (by rfl) w3.heap.size 3 i0 _ 1 8 Try.underlying35 hi hz0 hz1 hz2 rfl (by decide) (.slice (some ⟨wr.heap.size, 0, none⟩) 0 0) 0 [] (by rfl) HOM.out ⟨g, 0, none⟩ k cap (nums (L.take k)) (by rfl) HL1.out HN1.out (nums_one _) (by unfold maxLen; omega) (by omega) HBS.out ?_; intro va wa howna hgra; have howna' := Lib.hid (own_norm howna); have HGA := Lib.hid hgra; have hn2 := Lib.hid (news2 HC.out hgl HN2.out hgra); have HBW := Lib.hid (Nat.le_trans HBS.out hgra.size); clear howna hgra) | (refine step_app (by rfl) _ _ _ (by rfl) w3.heap.size 3 i0 _ 1 8 Try.underlying35 hi hz0 hz1 hz2 rfl (by decide) va k (nums (L.take k)) (by rfl) howna'.out ⟨g, k + 1, none⟩ (n - (k + 1)) (cap - (k + 1)) (nums (L.drop (k + 1))) (by rfl) HL2.out hn2.out (nums_one _) (by unfold maxLen; omega) (by omega) HBW.out ?_; intro vb wb hownb hgrb))
            obtain ⟨h6b, h9b, hbb⟩ := after18 H6r.out H9r.out (by omega) (by omega) hbs HBr.out hwB HGA.out howna'.out hgrb hownb
            rw [nums_wo, show k + (n - (k + 1)) = 4 - (0 + 1) by omega] at hownb
            have H6b := Lib.hid h6b
            have H9b := Lib.hid h9b
            have HBb := Lib.hid hbb
            have HOb := Lib.hid hownb
            clear h6b h9b hbb hownb hgrb howna' HGA hn2 HBW HN1 HN2 HL1 HL2 HOM HBS hcp HC k1 k2 k3 c1
            go_wp2_with (first | (refine wpl_load rfl 25 _ rfl w.heap.size 0 rfl R.arr (reg_all H6b.out) ?_))
            rw [HIM.out, HIM2.out]
            refine (do_mz d im p hp4 R (r.set d (acc v (L.take k ++ L.drop (k + 1)))) (Lib.hid (by rw [HST.out, HIM2.out, HPZ.out.1, acc_all, HPZ.out.2, Int.zero_add])) _ d1 d2 im1 im2).mono ?_
            rintro e wc ⟨rfl, hbc⟩
            have H6c := Lib.hid (rowAt_below H6b.out hbc rfl)
            have H9c := Lib.hid (rowAt_below H9b.out hbc rfl)
            have HOc := Lib.hid (own_below' HOb.out hbc rfl)
            have HBc := Lib.hid (HBb.out.trans (hbc.mono HBb.out.size))
            clear hbc
            go_wp2_with (first | (refine wpl_store rfl 25 _ _ rfl w.heap.size (r.set d (acc v (L.take k ++ L.drop (k + 1)))).arr R.arr rfl rfl H6c.out (by rw [Rg.size]; exact info25) (by rw [Rg.size, Rg.size]) (Rg.one _) ?_; intro wd hrow hg; have H6d := Lib.hid hrow; have H9d := Lib.hid (rowAt_grown H9c.out hg (by omega)); have HOd := Lib.hid (own_grown HOc.out hg (by omega)); have HBd := Lib.hid (grown_below HBc.out hg (Nat.le_refl _)); clear hrow hg))
            go_roundw
            case rel => exact ⟨0 + 1, L.take k ++ L.drop (k + 1), q', r.set d (acc v (L.take k ++ L.drop (k + 1))), by go_num, by omega, rfl, q'1, by omega, hlen, Lib.hid ⟨HNEXT.out.1, HNEXT.out.2, fun h => absurd h (by omega), fun _ => rfl⟩, H6d, H9d, HOd, HBd⟩
            case measure => simp [intOf]
          · have hjz : ((j : Int) == 0) = false := by simp; omega
            go_wp2
            go_region_law (first | (refine step_app (by rfl) _ _ _ (by rfl) w3.heap.size 3 i0 _ 1 8 Try.underlying35 hi hz0 hz1 hz2 rfl (by decide) (.slice (some ⟨wr.heap.size, 0, none⟩) 0 0) 0 [] (by rfl) HOM.out ⟨g, 0, none⟩ k cap (nums (L.take k)) (by rfl) HL1.out HN1.out (nums_one _) (by unfold maxLen; omega) (by omega) HBS.out ?_; intro va wa howna hgra; have howna' := Lib.hid (own_norm howna); have HGA := Lib.hid hgra; have hn2 := Lib.hid (news2 HC.out hgl HN2.out hgra); have HBW := Lib.hid (Nat.le_trans HBS.out hgra.size); clear howna hgra) | (refine step_app (by rfl) _ _ _ (by rfl) w3.heap.size 3 i0 _ 1 8 Try.underlying35 hi hz0 hz1 hz2 rfl (by decide) va k (nums (L.take k)) (by rfl) howna'.out ⟨g, k + 1, none⟩ (n - (k + 1)) (cap - (k + 1)) (nums (L.drop (k + 1))) (by rfl) HL2.out hn2.out (nums_one _) (by unfold maxLen; omega) (by omega) HBW.out ?_; intro vb wb hownb hgrb))
            obtain ⟨h6b, h9b, hbb⟩ := after18 H6r.out H9r.out (by omega) (by omega) hbs HBr.out hwB HGA.out howna'.out hgrb hownb
            rw [nums_wo, show k + (n - (k + 1)) = 4 - (j + 1) by omega] at hownb
            have H6b := Lib.hid h6b
            have H9b := Lib.hid h9b
            have HBb := Lib.hid hbb
            have HOb := Lib.hid hownb
            clear h6b h9b hbb hownb hgrb howna' HGA hn2 HBW HN1 HN2 HL1 HL2 HOM HBS hcp HC k1 k2 k3 c1
            go_wp2_with (first | (refine wpl_load rfl 25 _ rfl w.heap.size 0 rfl R.arr (reg_all H6b.out) ?_))
            rw [HIM.out, HIM2.out]
            have hRg : R.get d = acc v L := by rw [HP.out.2.2.2 (by omega)]; exact r.get_set d _ d1 d2
            have HRG := Lib.hid hRg
            refine (do_mk d im p hp4 R (r.set d (acc v (L.take k ++ L.drop (k + 1)))) (Lib.hid (by rw [HRG.out, HST.out, HIM2.out, HP.out.2.2.2 (by omega), r.set_set d _ _ d1 d2])) _ d1 d2 im1 im2 (by rw [HRG.out]; exact (acc_bd v L).1) (by rw [HRG.out]; exact (acc_bd v L).2) (by rw [HRG.out]; exact acc_field v L p hp4 HPM.out)).mono ?_
            rintro e wc ⟨rfl, hbc⟩
            have H6c := Lib.hid (rowAt_below H6b.out hbc rfl)
            have H9c := Lib.hid (rowAt_below H9b.out hbc rfl)
            have HOc := Lib.hid (own_below' HOb.out hbc rfl)
            have HBc := Lib.hid (HBb.out.trans (hbc.mono HBb.out.size))
            clear hbc
            go_wp2_with (first | (refine wpl_store rfl 25 _ _ rfl w.heap.size (r.set d (acc v (L.take k ++ L.drop (k + 1)))).arr R.arr rfl rfl H6c.out (by rw [Rg.size]; exact info25) (by rw [Rg.size, Rg.size]) (Rg.one _) ?_; intro wd hrow hg; have H6d := Lib.hid hrow; have H9d := Lib.hid (rowAt_grown H9c.out hg (by omega)); have HOd := Lib.hid (own_grown HOc.out hg (by omega)); have HBd := Lib.hid (grown_below HBc.out hg (Nat.le_refl _)); clear hrow hg))
            go_roundw
            case rel => exact ⟨j + 1, L.take k ++ L.drop (k + 1), q', r.set d (acc v (L.take k ++ L.drop (k + 1))), by go_num, by omega, rfl, q'1, by omega, hlen, Lib.hid ⟨HNEXT.out.1, HNEXT.out.2, fun h => absurd h (by omega), fun _ => rfl⟩, H6d, H9d, HOd, HBd⟩
            case measure => simp [intOf]; omega
      · obtain rfl : j = 4 := by omega
        obtain ⟨D, hD⟩ := Int.eq_ofNat_of_zero_le d1
        have hDl : D < 31 := by omega
        have hLn : L = [] := List.length_eq_zero_iff.1 (by omega)
        have hR : R = r.setX D v := by rw [HP.out.2.2.2 (by omega), hLn, acc_none v v1 v2, hD, r.set_x D v hDl]
        have H6s : Hid (rowAt wr w.heap.size = some (r.setX D v).arr) := Lib.hid (by rw [← hR]; exact H6r.out)
        have hDi : (0 : Int) ≤ D := by omega
        have hDi2 : (D : Int) < 31 := by omega
        have cD : wr.cell? ⟨w1.heap.size, D, none⟩ = some (.int .u64 (r.x D)) := (rowAt_cell H9r.out D).trans (r.at D hDl)
        have fD := rowAt_frz H9r.out D
        have H9s : Hid (rowAt (wr.setCell ⟨w1.heap.size, D, none⟩ (.int .u64 v)) w1.heap.size = some (r.setX D v).arr) := Lib.hid (by rw [← r.setX_arr D v hDl]; exact rowAt_set H9r.out _ _)
        have H6t : Hid (rowAt (wr.setCell ⟨w1.heap.size, D, none⟩ (.int .u64 v)) w.heap.size = some (r.setX D v).arr) := Lib.hid (rowAt_set_far H6s.out (by omega) _ _)
        have HBt : Hid (Below w.heap.size w (wr.setCell ⟨w1.heap.size, D, none⟩ (.int .u64 v))) := Lib.hid (HBr.out.setCell (p := ⟨w1.heap.size, _, none⟩) (by show w.heap.size ≤ w1.heap.size; omega) _)
        subst hD
        clear hR hLn HP H6r H9r HOr hLl hq1 hq2
        have t6 := H6t.out
        have t9 := H9s.out
        have hl6 : ∀ w', rowAt w' w.heap.size = some (r.setX D v).arr → (ldAt 25 (.pointer (some ⟨w.heap.size, 0, none⟩))).run Try.prog w' = .ok (.agg (r.setX D v).arr) w' := fun w' h => reg_all h
        have hl9 : ∀ w', rowAt w' w1.heap.size = some (r.setX D v).arr → (ldAt 25 (.pointer (some ⟨w1.heap.size, 0, none⟩))).run Try.prog w' = .ok (.agg (r.setX D v).arr) w' := fun w' h => reg_all h
        go_wp2
        go_ret
        exact ⟨rfl, HBt.out⟩
end Go.Proofs.Ytpjfjdncdiemlaa
