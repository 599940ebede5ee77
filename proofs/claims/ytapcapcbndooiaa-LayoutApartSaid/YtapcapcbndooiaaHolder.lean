import Derived.Test.YtapcapcbndooiaaRows
import Derived.WalkKit
import Derived.ProofKit
import Derived.OpenShut
import Derived.Deep.QuietTactic
import Derived.BigQuiet
import Derived.Outline
import Derived.WalkSmall
import Derived.WalkLawsBesides
import Derived.WalkSpells
import Derived.BigGuardPart
import Derived.Test.YtapcapcbndooiaaRegs
import Derived.Lib.Hide
namespace Go.Proofs.Ytapcapcbndooiaa
open Go.ChangeShapes Go.WideShapes Go.ChangeAt Go.RowKit
set_option linter.unusedVariables false
/-! ### Regions by their number -/
def rb (j : Nat) : Int := if j = 0 then 65536 else if j = 1 then 524288 else if j = 2 then 1048576 else if j = 3 then 2097152 else 3145728
def rs (c0 c1 c3 : Int) (j : Nat) : Int := if j = 0 then 262144 else if j = 1 then 262144 else if j = 2 then 131072 * c0 else if j = 3 then hp c1 else cd c3
def rwr (j : Nat) : Bool := if j = 0 then false else true
def rx (j : Nat) : Bool := if j = 0 then true else if j = 4 then true else false
def RegAt (w : World) (g : Nat) (c0 c1 c3 : Int) : Prop := ∀ j, j < 5 → w.cell? ⟨g, j * 4, none⟩ = some (.int .u64 (rb j)) ∧ w.cell? ⟨g, j * 4 + 1, none⟩ = some (.int .u64 (rs c0 c1 c3 j)) ∧ w.cell? ⟨g, j * 4 + 2, none⟩ = some (.bool (rwr j)) ∧ w.cell? ⟨g, j * 4 + 3, none⟩ = some (.bool (rx j))
theorem RegAt.below {w w' : World} {g B : Nat} {c0 c1 c3 : Int} (h : RegAt w g c0 c1 c3) (hb : Below B w w') (hg : g < B) : RegAt w' g c0 c1 c3 := fun j hj => by
  obtain ⟨a, b, c, d⟩ := h j hj
  exact ⟨(hb.cell (p := ⟨g, _, none⟩) hg).trans a, (hb.cell (p := ⟨g, _, none⟩) hg).trans b, (hb.cell (p := ⟨g, _, none⟩) hg).trans c, (hb.cell (p := ⟨g, _, none⟩) hg).trans d⟩
theorem RegAt.made (w : World) (c0 c1 c3 : Int) : RegAt (w.alloc (.cells (regA c0 c1 c3) 43)) w.heap.size c0 c1 c3 := fun j hj => by
  have e : ∀ o, (w.alloc (.cells (regA c0 c1 c3) 43)).cell? ⟨w.heap.size, o, none⟩ = (regA c0 c1 c3)[o]? := fun o => World.cell?_alloc_at _ _ _ _ rfl
  have : j = 0 ∨ j = 1 ∨ j = 2 ∨ j = 3 ∨ j = 4 := by omega
  rcases this with rfl | rfl | rfl | rfl | rfl <;> exact ⟨e _, e _, e _, e _⟩
def inR (c0 c1 c3 : Int) (j : Nat) (a : Int) : Prop := rb j ≤ a ∧ a < rb j + rs c0 c1 c3 j
theorem rs_range (c0 c1 c3 : Int) (j : Nat) (h0 : 1 ≤ c0) (h0' : c0 ≤ 4) (h1 : c1 ≤ 65536) (h3 : c3 ≤ 65536) : 8 ≤ rs c0 c1 c3 j ∧ rs c0 c1 c3 j ≤ 524288 := by
  unfold rs hp cd; repeat' split
  all_goals omega
theorem rb_range (j : Nat) : 65536 ≤ rb j ∧ rb j ≤ 3145728 := by unfold rb; repeat' split <;> omega
theorem rb_lt (i j : Nat) (h : i < j) (hj : j < 5) : rb i + 262144 ≤ rb j := by
  have : (i = 0 ∧ (j = 1 ∨ j = 2 ∨ j = 3 ∨ j = 4)) ∨ (i = 1 ∧ (j = 2 ∨ j = 3 ∨ j = 4)) ∨ (i = 2 ∧ (j = 3 ∨ j = 4)) ∨ (i = 3 ∧ j = 4) := by omega
  rcases this with ⟨rfl, rfl | rfl | rfl | rfl⟩ | ⟨rfl, rfl | rfl | rfl⟩ | ⟨rfl, rfl | rfl⟩ | ⟨rfl, rfl⟩ <;> decide
theorem inR_one (c0 c1 c3 a : Int) (i j : Nat) (h0 : 1 ≤ c0) (h0' : c0 ≤ 4) (h1 : c1 ≤ 65536) (h3 : c3 ≤ 65536) (hi : i < 5) (hj : j < 5) (h : inR c0 c1 c3 i a) (g : inR c0 c1 c3 j a) : i = j := by
  have key : ∀ p q : Nat, p < q → q < 5 → inR c0 c1 c3 p a → inR c0 c1 c3 q a → False := by
    intro p q hpq hq x y
    have : (p = 0 ∧ (q = 1 ∨ q = 2 ∨ q = 3 ∨ q = 4)) ∨ (p = 1 ∧ (q = 2 ∨ q = 3 ∨ q = 4)) ∨ (p = 2 ∧ (q = 3 ∨ q = 4)) ∨ (p = 3 ∧ q = 4) := by omega
    have r := rs_range c0 c1 c3 p h0 h0' h1 h3
    unfold inR at x y
    rcases this with ⟨rfl, rfl | rfl | rfl | rfl⟩ | ⟨rfl, rfl | rfl | rfl⟩ | ⟨rfl, rfl | rfl⟩ | ⟨rfl, rfl⟩ <;> simp [rb, rs] at x y r <;> omega
  rcases Nat.lt_trichotomy i j with c | c | c
  · exact (key i j c hj h g).elim
  · exact c
  · exact (key j i c hi g h).elim
def WhichIs (c0 c1 c3 a : Int) (n : Int) : Prop := (∃ k : Nat, k < 5 ∧ inR c0 c1 c3 k a ∧ n = (k : Int) + 1) ∨ ((∀ k, k < 5 → ¬ inR c0 c1 c3 k a) ∧ n = 0)
theorem WhichIs.uniq {c0 c1 c3 a n m : Int} (h0 : 1 ≤ c0) (h0' : c0 ≤ 4) (h1 : c1 ≤ 65536) (h3 : c3 ≤ 65536) (x : WhichIs c0 c1 c3 a n) (y : WhichIs c0 c1 c3 a m) : n = m := by
  rcases x with ⟨k, hk, hr, rfl⟩ | ⟨hn, rfl⟩ <;> rcases y with ⟨l, hl, hr', rfl⟩ | ⟨hn', rfl⟩
  · rw [inR_one c0 c1 c3 a k l h0 h0' h1 h3 hk hl hr hr']
  · exact absurd hr (hn' k hk)
  · exact absurd hr' (hn l hl)
  · rfl
def zeroR : Array Value := #[.int .u64 0, .int .u64 0, .bool false, .bool false]
def regV (c0 c1 c3 : Int) (k : Nat) : Array Value := #[.int .u64 (rb k), .int .u64 (rs c0 c1 c3 k), .bool (rwr k), .bool (rx k)]
theorem set4 (w : World) (B : Nat) (y0 y1 y2 y3 x0 x1 x2 x3 : Value) (q0 : w.cell? ⟨B, 0, none⟩ = some y0) (q1 : w.cell? ⟨B, 1, none⟩ = some y1) (q2 : w.cell? ⟨B, 2, none⟩ = some y2) (q3 : w.cell? ⟨B, 3, none⟩ = some y3) :
    ((((w.setCell ⟨B, 0, none⟩ x0).setCell ⟨B, 1, none⟩ x1).setCell ⟨B, 2, none⟩ x2).setCell ⟨B, 3, none⟩ x3).cell? ⟨B, 0, none⟩ = some x0 ∧
    ((((w.setCell ⟨B, 0, none⟩ x0).setCell ⟨B, 1, none⟩ x1).setCell ⟨B, 2, none⟩ x2).setCell ⟨B, 3, none⟩ x3).cell? ⟨B, 1, none⟩ = some x1 ∧
    ((((w.setCell ⟨B, 0, none⟩ x0).setCell ⟨B, 1, none⟩ x1).setCell ⟨B, 2, none⟩ x2).setCell ⟨B, 3, none⟩ x3).cell? ⟨B, 2, none⟩ = some x2 ∧
    ((((w.setCell ⟨B, 0, none⟩ x0).setCell ⟨B, 1, none⟩ x1).setCell ⟨B, 2, none⟩ x2).setCell ⟨B, 3, none⟩ x3).cell? ⟨B, 3, none⟩ = some x3 := by
  have ne : ∀ i j : Nat, i ≠ j → (⟨B, i, none⟩ : Addr) ≠ ⟨B, j, none⟩ := fun i j h g => h (by injection g)
  have a1 : (w.setCell ⟨B, 0, none⟩ x0).cell? ⟨B, 1, none⟩ = some y1 := (World.cell?_setCell_other _ _ _ _ (ne _ _ (by decide))).trans q1
  have a2 : ((w.setCell ⟨B, 0, none⟩ x0).setCell ⟨B, 1, none⟩ x1).cell? ⟨B, 2, none⟩ = some y2 := (World.cell?_setCell_other _ _ _ _ (ne _ _ (by decide))).trans ((World.cell?_setCell_other _ _ _ _ (ne _ _ (by decide))).trans q2)
  have a3 : (((w.setCell ⟨B, 0, none⟩ x0).setCell ⟨B, 1, none⟩ x1).setCell ⟨B, 2, none⟩ x2).cell? ⟨B, 3, none⟩ = some y3 := (World.cell?_setCell_other _ _ _ _ (ne _ _ (by decide))).trans ((World.cell?_setCell_other _ _ _ _ (ne _ _ (by decide))).trans ((World.cell?_setCell_other _ _ _ _ (ne _ _ (by decide))).trans q3))
  refine ⟨?_, ?_, ?_, ?_⟩
  · exact (World.cell?_setCell_other _ _ _ _ (ne _ _ (by decide))).trans ((World.cell?_setCell_other _ _ _ _ (ne _ _ (by decide))).trans ((World.cell?_setCell_other _ _ _ _ (ne _ _ (by decide))).trans (World.cell?_setCell_same _ _ _ q0)))
  · exact (World.cell?_setCell_other _ _ _ _ (ne _ _ (by decide))).trans ((World.cell?_setCell_other _ _ _ _ (ne _ _ (by decide))).trans (World.cell?_setCell_same _ _ _ a1))
  · exact (World.cell?_setCell_other _ _ _ _ (ne _ _ (by decide))).trans (World.cell?_setCell_same _ _ _ a2)
  · exact World.cell?_setCell_same _ _ _ a3
def HoldPost (a c0 c1 c3 : Int) (w : World) (e : Ending) (w' : World) : Prop := Below w.heap.size w w' ∧ ((∃ k, k < 5 ∧ inR c0 c1 c3 k a ∧ e = .returned (.agg (regV c0 c1 c3 k))) ∨ ((∀ k, k < 5 → ¬ inR c0 c1 c3 k a) ∧ e = .returned (.agg zeroR)))
set_option maxRecDepth 100000 in
set_option maxHeartbeats 2000000 in
theorem holder_c (g cap : Nat) (a c0 c1 c3 : Int) (w : World) (ha : 0 ≤ a) (ha' : a < 18446744073709551616) (h0 : 1 ≤ c0) (h0' : c0 ≤ 4) (h1 : c1 ≤ 65536) (h3 : c3 ≤ 65536) (hg : g < w.heap.size) (HR : Hid (RegAt w g c0 c1 c3)) :
    Calls Try.prog 108 #[.slice (some ⟨g, 0, none⟩) 5 cap, .int .u64 a] w (HoldPost a c0 c1 c3 w) := by
  go_enter Try.func108, Try.ntmps108
  go_wp2
  go_loopw [9] (fun i wr => ∃ k : Nat, k ≤ 5 ∧ Hid (∀ j, j < k → ¬ inR c0 c1 c3 j a) ∧ i = .int .i64 k ∧ Below (w.heap.size + 1) (w.alloc (.cells #[.int .u64 0, .int .u64 0, .bool false, .bool false] 43)) wr) (fun i _ => 5 - (intOf i).toNat)
  case atStart => exact ⟨0, by omega, Lib.hid (fun j hj => by omega), rfl, Below.refl _ _⟩
  case round =>
    obtain ⟨k, hk, HN, rfl, hbl⟩ := hrel
    have HB : Hid (Below w.heap.size w wr) := Lib.hid (((Below.refl _ _).alloc (Nat.le_refl _) _).trans (hbl.mono (by omega)))
    have hsz := hbl.size
    simp at hsz
    have hszl : w.heap.size < wr.heap.size := by omega
    have hne : ¬ w.heap.size = wr.heap.size := by omega
    have q0 : wr.cell? ⟨w.heap.size, 0, none⟩ = some (.int .u64 0) := (hbl.cell (p := ⟨w.heap.size, 0, none⟩) (by simp)).trans (World.cell?_alloc_at _ _ _ _ rfl)
    have q1 : wr.cell? ⟨w.heap.size, 1, none⟩ = some (.int .u64 0) := (hbl.cell (p := ⟨w.heap.size, 1, none⟩) (by simp)).trans (World.cell?_alloc_at _ _ _ _ rfl)
    have q2 : wr.cell? ⟨w.heap.size, 2, none⟩ = some (.bool false) := (hbl.cell (p := ⟨w.heap.size, 2, none⟩) (by simp)).trans (World.cell?_alloc_at _ _ _ _ rfl)
    have q3 : wr.cell? ⟨w.heap.size, 3, none⟩ = some (.bool false) := (hbl.cell (p := ⟨w.heap.size, 3, none⟩) (by simp)).trans (World.cell?_alloc_at _ _ _ _ rfl)
    have z0 : wr.frozen? ⟨w.heap.size, 0, none⟩ = false := (hbl.frozen (p := ⟨w.heap.size, 0, none⟩) (by simp)).trans (World.frozen?_alloc_at _ _ _ _ rfl)
    have z1 : wr.frozen? ⟨w.heap.size, 1, none⟩ = false := (hbl.frozen (p := ⟨w.heap.size, 1, none⟩) (by simp)).trans (World.frozen?_alloc_at _ _ _ _ rfl)
    have z2 : wr.frozen? ⟨w.heap.size, 2, none⟩ = false := (hbl.frozen (p := ⟨w.heap.size, 2, none⟩) (by simp)).trans (World.frozen?_alloc_at _ _ _ _ rfl)
    have z3 : wr.frozen? ⟨w.heap.size, 3, none⟩ = false := (hbl.frozen (p := ⟨w.heap.size, 3, none⟩) (by simp)).trans (World.frozen?_alloc_at _ _ _ _ rfl)
    by_cases hlt : k < 5
    · obtain ⟨f1, f2, f3, f4⟩ := ((HR.out.below (B := w.heap.size) ((Below.refl _ _).alloc (Nat.le_refl _) _) hg).below hbl (by omega)) k hlt
      have r1 := rb_range k
      have r2 := rs_range c0 c1 c3 k h0 h0' h1 h3
      have HBL := Lib.hid hbl
      clear hbl
      by_cases hin : rb k ≤ a ∧ a < rb k + rs c0 c1 c3 k
      · have HI : Hid (inR c0 c1 c3 k a) := Lib.hid hin
        obtain ⟨g1, g2⟩ := hin
        go_wp2
        obtain ⟨t0, t1, t2, t3⟩ := set4 wr w.heap.size _ _ _ _ (.int .u64 (rb k)) (.int .u64 (rs c0 c1 c3 k)) (.bool (rwr k)) (.bool (rx k)) q0 q1 q2 q3
        have hs4 : w.heap.size < ((((wr.setCell ⟨w.heap.size, 0, none⟩ (.int .u64 (rb k))).setCell ⟨w.heap.size, 1, none⟩ (.int .u64 (rs c0 c1 c3 k))).setCell ⟨w.heap.size, 2, none⟩ (.bool (rwr k))).setCell ⟨w.heap.size, 3, none⟩ (.bool (rx k))).heap.size := by simp [World.setCell]; omega
        have p0 := fun o : Obj => (World.cell?_alloc_past (w := ((((wr.setCell ⟨w.heap.size, 0, none⟩ (.int .u64 (rb k))).setCell ⟨w.heap.size, 1, none⟩ (.int .u64 (rs c0 c1 c3 k))).setCell ⟨w.heap.size, 2, none⟩ (.bool (rwr k))).setCell ⟨w.heap.size, 3, none⟩ (.bool (rx k)))) o w.heap.size 0 hs4).trans t0
        have p1 := fun o : Obj => (World.cell?_alloc_past (w := ((((wr.setCell ⟨w.heap.size, 0, none⟩ (.int .u64 (rb k))).setCell ⟨w.heap.size, 1, none⟩ (.int .u64 (rs c0 c1 c3 k))).setCell ⟨w.heap.size, 2, none⟩ (.bool (rwr k))).setCell ⟨w.heap.size, 3, none⟩ (.bool (rx k)))) o w.heap.size 1 hs4).trans t1
        have p2 := fun o : Obj => (World.cell?_alloc_past (w := ((((wr.setCell ⟨w.heap.size, 0, none⟩ (.int .u64 (rb k))).setCell ⟨w.heap.size, 1, none⟩ (.int .u64 (rs c0 c1 c3 k))).setCell ⟨w.heap.size, 2, none⟩ (.bool (rwr k))).setCell ⟨w.heap.size, 3, none⟩ (.bool (rx k)))) o w.heap.size 2 hs4).trans t2
        have p3 := fun o : Obj => (World.cell?_alloc_past (w := ((((wr.setCell ⟨w.heap.size, 0, none⟩ (.int .u64 (rb k))).setCell ⟨w.heap.size, 1, none⟩ (.int .u64 (rs c0 c1 c3 k))).setCell ⟨w.heap.size, 2, none⟩ (.bool (rwr k))).setCell ⟨w.heap.size, 3, none⟩ (.bool (rx k)))) o w.heap.size 3 hs4).trans t3
        refine bodyPost_ret (v := .agg (regV c0 c1 c3 k)) (by simp [results, Try.results108, go_sem, regV, p0, p1, p2, p3]) rfl ⟨?_, Or.inl ⟨k, hlt, HI.out, rfl⟩⟩
        exact ((((HB.out.setCell (Nat.le_refl _) _).setCell (Nat.le_refl _) _).setCell (Nat.le_refl _) _).setCell (Nat.le_refl _) _).alloc (by simp [World.setCell]; omega) _
      · have HI : Hid (¬ inR c0 c1 c3 k a) := Lib.hid hin
        have HN' : Hid (∀ j, j < k + 1 → ¬ inR c0 c1 c3 j a) := Lib.hid (fun j hj => by
          rcases Nat.lt_or_ge j k with x | x
          · exact HN.out j x
          · obtain rfl : j = k := by omega
            exact HI.out)
        by_cases g1 : rb k ≤ a
        · have g2 : rb k + rs c0 c1 c3 k ≤ a := by omega
          have d2 : decide (a < rb k + rs c0 c1 c3 k) = false := decide_eq_false (by omega)
          clear hin
          go_wp2
          go_roundw
          case rel => exact ⟨k + 1, by omega, HN', by go_num, HBL.out.alloc (by omega) _⟩
          case measure => simp [intOf]; omega
        · have d1 : decide (rb k ≤ a) = false := decide_eq_false g1
          clear hin
          go_wp2
          go_roundw
          case rel => exact ⟨k + 1, by omega, HN', by go_num, HBL.out.alloc (by omega) _⟩
          case measure => simp [intOf]; omega
    · obtain rfl : k = 5 := by omega
      have HBL := Lib.hid hbl
      clear hbl
      go_wp2
      obtain ⟨t0, t1, t2, t3⟩ := set4 wr w.heap.size _ _ _ _ (.int .u64 0) (.int .u64 0) (.bool false) (.bool false) q0 q1 q2 q3
      refine bodyPost_ret (v := .agg zeroR) (by simp [results, Try.results108, go_sem, zeroR, t0, t1, t2, t3]) rfl ⟨?_, Or.inr ⟨HN.out, rfl⟩⟩
      exact (((HB.out.setCell (Nat.le_refl _) _).setCell (Nat.le_refl _) _).setCell (Nat.le_refl _) _).setCell (Nat.le_refl _) _
end Go.Proofs.Ytapcapcbndooiaa
