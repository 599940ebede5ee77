import Derived.RangeFuncNested
import Derived.RangeFuncBound
import Derived.RangeFuncCalls
import Derived.RangeFuncLeaves
import Derived.RangeFuncBox
import Derived.Shelf.Abstract
import Derived.Shelf.RegionOpen
import Derived.WalkKit
import Derived.OwnWalkIn
import Derived.TacticsInMore
import Derived.LoopNIn
import Derived.LoopIn
import Derived.Outline
import Derived.Test.YtnbpgoacooddjaaFIns3
namespace Go.Proofs.Ytnbpgoacooddjaa.Fr
open Go.RowKit Go.Shelf
set_option linter.unusedVariables false
attribute [local go_sem] Oper.semAt_some
def InsAt (w : World) (b : Nat) (a0 a1 a2 a3 a4 a5 a6 : Value) : Prop := b < w.heap.size ∧ w.cell? ⟨b, 0, none⟩ = some a0 ∧ w.cell? ⟨b, 1, none⟩ = some a1 ∧ w.cell? ⟨b, 2, none⟩ = some a2 ∧ w.cell? ⟨b, 3, none⟩ = some a3 ∧ w.cell? ⟨b, 4, none⟩ = some a4 ∧ w.cell? ⟨b, 5, none⟩ = some a5 ∧ w.cell? ⟨b, 6, none⟩ = some a6
theorem InsAt.new (w : World) (a0 a1 a2 a3 a4 a5 a6 : Value) : InsAt (w.alloc (.cells #[a0, a1, a2, a3, a4, a5, a6] 29)) w.heap.size a0 a1 a2 a3 a4 a5 a6 :=
  ⟨by simp, World.cell?_alloc_at _ _ _ _ rfl, World.cell?_alloc_at _ _ _ _ rfl, World.cell?_alloc_at _ _ _ _ rfl, World.cell?_alloc_at _ _ _ _ rfl, World.cell?_alloc_at _ _ _ _ rfl, World.cell?_alloc_at _ _ _ _ rfl, World.cell?_alloc_at _ _ _ _ rfl⟩
/-- What the iterator wants kept: the instruction's cells. -/
def KpI (b : Nat) (W W' : World) : Prop := b < W.heap.size → b < W'.heap.size ∧ ∀ i, W'.cell? ⟨b, i, none⟩ = W.cell? ⟨b, i, none⟩
theorem kpI_t {b : Nat} {A B C : World} (h : KpI b A B) (k : KpI b B C) : KpI b A C := fun hb => ⟨(k (h hb).1).1, fun i => ((k (h hb).1).2 i).trans ((h hb).2 i)⟩
theorem kpI_below {b n₀ : Nat} {W W' : World} (hb : b < n₀) (h : Below n₀ W W') : KpI b W W' := fun hlt => ⟨Nat.lt_of_lt_of_le hlt h.size, fun i => h.cell (p := ⟨b, i, none⟩) hb⟩
theorem kpI_b {b : Nat} {w : World} (hb : b < w.heap.size) (W : World) (l : Nat) (o o' : Obj) (hl : w.heap.size ≤ l) (h : W.heap[l]? = some o) (h1 : o.isCells = false) (h2 : o.isWalk = false) : KpI b W (W.putObj l o') :=
  kpI_below (n₀ := w.heap.size) hb (belowK_b (Nat.le_refl _) W l o o' hl h h1 h2)
/-- The box of the row behind insert and the store. -/
theorem Boxed.inserted {W w1 : World} {n₀ B : Nat} {t e : TypeId} {size : Nat} {v v' : Value} {k m : Nat} {xs ys : List Value} (hv : Boxed W B t v) (hte : t ≠ e) (hrow : W.ownsRow n₀ e size v k xs)
    (hown' : w1.ownsRow n₀ e size v' m ys) (hgrow : W.grownBy w1 v.ownBlock) :
    Boxed w1 B t v ∧ Boxed (w1.setCell ⟨B, 0, none⟩ v') B t v' ∧ (w1.setCell ⟨B, 0, none⟩ v').ownsRow n₀ e size v' m ys ∧ KeepsOthers W (w1.setCell ⟨B, 0, none⟩ v') ∧ (∀ n, n ≤ n₀ → n ≤ B → n ≤ W.heap.size → Below n W (w1.setCell ⟨B, 0, none⟩ v')) ∧ (∀ b, b < n₀ → b ≠ B → KpI b W (w1.setCell ⟨B, 0, none⟩ v')) := by
  have hv1 : Boxed w1 B t v := hv.kept hgrow (hv.not_row hte hrow)
  have hnb : ∀ k', v.ownBlock = some k' → n₀ ≤ k' := fun k' h => (hrow.lt k' h).1
  refine ⟨hv1, hv1.set v', hown'.kept (grownBy_setCell' w1 B v') (.inr (hv1.not_row hte hown').symm), ?_, fun n h1 h2 h3 => ?_, fun b h1 h2 hb => ?_⟩
  · refine (KeepsOthers.of_grownBy hgrow fun j o ej hj => ?_).trans (KeepsOthers.setCell _ _ _)
    rcases hrow.2 with ⟨rfl, _⟩ | ⟨g, cap, cur, rfl, _, hgb, _⟩
    · simp [Value.ownBlock] at ej
    · obtain rfl : g = j := by simpa [Value.ownBlock] using ej
      rw [hgb] at hj; cases hj; rfl
  · refine Below.trans (b := w1) ⟨hgrow.os, hgrow.tape, hgrow.output, hgrow.size, fun x hx => hgrow.block x (by omega) (fun e => by have := hnb x e.symm; omega)⟩ ((Below.refl _ _).setCell (p := ⟨B, 0, none⟩) h2 _)
  · refine ⟨by have := hgrow.size; simp [World.setCell]; omega, fun i => ?_⟩
    rw [World.cell?_setCell_other _ _ _ _ (fun e => h2 (by injection e with e1; exact e1.symm))]
    exact World.cell?_of_block (hgrow.block b hb (fun e => by have := hnb b e.symm; omega))
theorem ownsRow_mono {W : World} {a b : Nat} {e : TypeId} {size : Nat} {v : Value} {k : Nat} {xs : List Value} (h : W.ownsRow a e size v k xs) (hb : b ≤ a) : W.ownsRow b e size v k xs := by
  rcases h with ⟨h1, h2 | ⟨g, cap, cur, e1, e2, r⟩⟩
  · exact ⟨h1, .inl h2⟩
  · exact ⟨h1, .inr ⟨g, cap, cur, e1, Nat.le_trans hb e2, r⟩⟩
def iv (op d n m a c i : Int) : Value := .agg #[.int .i64 op, .int .i64 d, .int .i64 n, .int .i64 m, .int .i64 a, .int .i64 c, .int .i64 i]
set_option maxRecDepth 100000 in
set_option maxHeartbeats 1000000 in
theorem registers_g (op d n m a c i : Int) (tf gf : Nat) (T : List Int) (Sp : List Int → Prop) (w : World) (hT : T.length ≤ 6)
    (hck : ∀ W, Calls Try.prog 31 #[.agg #[.int .i64 op, .int .i64 d, .int .i64 n, .int .i64 m, .int .i64 a, .int .i64 c, .int .i64 i]] W fun e W' => e = .returned (.int .i64 0) ∧ Below W.heap.size W W')
    (hmk : ∀ W, Calls Try.prog tf #[.agg #[.int .i64 op, .int .i64 d, .int .i64 n, .int .i64 m, .int .i64 a, .int .i64 c, .int .i64 i]] W fun e W' => e = .returned (.func (.func gf) #[] #[.pointer (some ⟨W.heap.size, 0, none⟩)]) ∧ W' = W.alloc (.cells #[.int .i64 op, .int .i64 d, .int .i64 n, .int .i64 m, .int .i64 a, .int .i64 c, .int .i64 i] 29))
    (hseq : ∀ Bi W, InsAt W Bi (.int .i64 op) (.int .i64 d) (.int .i64 n) (.int .i64 m) (.int .i64 a) (.int .i64 c) (.int .i64 i) → SeqStopsK Fence.wide 4 Try.prog gf #[.pointer (some ⟨Bi, 0, none⟩)] (fun x : Int => #[.int .i64 x]) (KpI Bi) (fun xs => xs = T) Sp 6 W)
    (hegt : ∀ args w, (callFunc tf args).run Try.prog w = .ok (.enter tf args) w)
    (heg : ∀ args w, (callFunc gf args).run Try.prog w = .ok (.enter gf args) w) :
    Calls Try.prog 151 #[.agg #[.int .i64 op, .int .i64 d, .int .i64 n, .int .i64 m, .int .i64 a, .int .i64 c, .int .i64 i], .func (.func tf) #[] #[]] w fun e w' => ∃ v, e = .returned v ∧ w'.ownsRow w.heap.size 3 1 v (puts T).length (ivs (puts T)) ∧ (puts T = [] → v = .slice none 0 0) ∧ Below w.heap.size w w' := by
  refine (callsIn_wide (n := 5)).1 ?_
  refine callsIn_of_wp_marks Try.func151 rfl trivial ?_ rfl
  simp only [Try.ntmps151, List.size_toArray, List.length_cons, List.length_nil, Nat.reduceAdd, Nat.reduceSub, Array.replicate_succ, Array.replicate_zero, List.push_toArray, List.append_toArray, List.nil_append, List.cons_append]
  gi_wp2_with (fail)
  have HI0 := Lib.hid (InsAt.new w (.int .i64 op) (.int .i64 d) (.int .i64 n) (.int .i64 m) (.int .i64 a) (.int .i64 c) (.int .i64 i))
  refine ⟨trivial, ?_⟩
  refine (callsIn_wide.2 (hck _)).mono ?_
  rintro e w1 ⟨rfl, hb1⟩
  have hbA : Below w.heap.size w w1 := ((Below.refl _ _).alloc (Nat.le_refl _) _).trans (hb1.mono (by simp))
  have hA1 : w.heap.size < w1.heap.size := by have := hb1.size; simp at this; omega
  have hbW : Below (w.heap.size + 1) (w.alloc (.cells #[.int .i64 op, .int .i64 d, .int .i64 n, .int .i64 m, .int .i64 a, .int .i64 c, .int .i64 i] 29)) (w1.alloc (.cells #[.slice none 0 0] 36)) := (hb1.mono (by simp)).alloc (by omega) _
  obtain ⟨_, c0, c1, c2, c3, c4, c5, c6⟩ := HI0.out
  have k0 := (hbW.cell (p := ⟨w.heap.size, 0, none⟩) (by simp)).trans c0
  have k1 := (hbW.cell (p := ⟨w.heap.size, 1, none⟩) (by simp)).trans c1
  have k2 := (hbW.cell (p := ⟨w.heap.size, 2, none⟩) (by simp)).trans c2
  have k3 := (hbW.cell (p := ⟨w.heap.size, 3, none⟩) (by simp)).trans c3
  have k4 := (hbW.cell (p := ⟨w.heap.size, 4, none⟩) (by simp)).trans c4
  have k5 := (hbW.cell (p := ⟨w.heap.size, 5, none⟩) (by simp)).trans c5
  have k6 := (hbW.cell (p := ⟨w.heap.size, 6, none⟩) (by simp)).trans c6
  have HB := Lib.hid hbW
  clear c0 c1 c2 c3 c4 c5 c6 hbW
  gi_wp2
  refine ⟨trivial, ?_⟩
  refine (callsIn_wide.2 (hmk _)).mono ?_
  rintro e w2 ⟨rfl, rfl⟩
  clear k0 k1 k2 k3 k4 k5 k6
  gi_wp2
  obtain ⟨bl, hbl⟩ : ∃ bl, bl = w1.heap.size := ⟨_, rfl⟩
  obtain ⟨W0, hW0⟩ : ∃ W0, (w1.alloc (.cells #[.slice none 0 0] 36)).alloc (.cells #[.int .i64 op, .int .i64 d, .int .i64 n, .int .i64 m, .int .i64 a, .int .i64 c, .int .i64 i] 29) = W0 := ⟨_, rfl⟩
  have hI1 := InsAt.new (w1.alloc (.cells #[.slice none 0 0] 36)) (.int .i64 op) (.int .i64 d) (.int .i64 n) (.int .i64 m) (.int .i64 a) (.int .i64 c) (.int .i64 i)
  have bO := (Boxed.new w1 36 (.slice none 0 0)).alloc (.cells #[.int .i64 op, .int .i64 d, .int .i64 n, .int .i64 m, .int .i64 a, .int .i64 c, .int .i64 i] 29)
  have hsz : W0.heap.size = bl + 2 := by rw [← hW0, hbl]; simp
  have hB0 : Below w.heap.size w W0 := by rw [← hW0]; exact (hbA.alloc (by omega) _).alloc (by simp; omega) _
  rw [World.size_alloc] at hI1
  try rw [World.size_alloc]
  rw [hW0] at hI1 bO ⊢
  rw [← hbl] at hI1 bO hA1 ⊢
  have HI1 := Lib.hid hI1
  have HA := Lib.hid hA1
  clear hI1 HB hb1 hbA hW0 hbl HI0
  refine wpIn_rangeFunc_ownG (hro := rfl) (h1 := by decide) (gf := gf) (lb := #[.pointer (some ⟨bl + 1, 0, none⟩)]) rfl trivial heg
    (hseq (bl + 1) W0 HI1.out) kpI_t (kpI_b (by omega)) (Below.refl _ _) (fun _ => rfl)
    (fun pre W => (∃ v, Boxed W bl 36 v ∧ W.ownsRow (bl + 2) 3 1 v (puts pre).length (ivs (puts pre)) ∧ (puts pre = [] → v = .slice none 0 0)) ∧ Below w.heap.size W0 W)
    (fun _ _ _ => False)
    (OwnFrom.and (Own.from (holdsRow_own (bl + 2) bl 36 3 1 (fun pre => (puts pre).length) (fun pre => ivs (puts pre)) (fun pre v => puts pre = [] → v = .slice none 0 0)) _) (ownFrom_below (by have := HA.out; omega) (by have := HA.out; omega)))
    (fun _ _ _ _ _ hs _ _ => hs)
    ⟨⟨_, bO, World.ownsRow_nil _ _ _ _, fun _ => rfl⟩, Below.refl _ _⟩
    (fun x => { tmps := #[.agg #[.int .i64 op, .int .i64 d, .int .i64 n, .int .i64 m, .int .i64 a, .int .i64 c, .int .i64 i], .func (.func tf) #[] #[], .pointer (some ⟨w.heap.size, 0, none⟩), undef, .slice none 0 0, .pointer (some ⟨bl, 0, none⟩), .int .i64 x, .agg #[.int .i64 op, .int .i64 d, .int .i64 n, .int .i64 m, .int .i64 a, .int .i64 c, .int .i64 i], .int .i64 0, .bool false, .func (.func tf) #[] #[], .agg #[.int .i64 op, .int .i64 d, .int .i64 n, .int .i64 m, .int .i64 a, .int .i64 c, .int .i64 i], .func (.func gf) #[] #[.pointer (some ⟨bl + 1, 0, none⟩)], .int .i64 x, undef, undef, undef, undef, undef, undef], defers := [] }) ?assign ?body ?done ?stop
  case assign =>
    intro l x W K hK
    gi_wp2
    exact hK
  case body =>
    rintro l pre x W ⟨⟨v, hv, hrow, hnil⟩, hB⟩ hlt
    have hc := hv.cell
    have hn0 : bl + 2 ≤ W.heap.size := by have := hB.size; omega
    have hpl : (puts pre).length ≤ 40 := by have := puts_length pre; omega
    have hA := HA.out
    by_cases h31 : x = 31
    · subst h31
      have hp : puts (pre ++ [31]) = puts pre := by rw [puts_snoc]; simp [put]
      gi_wp2
      exact ⟨KeepsFrom.refl _ _, kpI_below (n₀ := bl + 2) (by omega) (Below.refl _ _), ⟨v, hv, by rw [hp]; exact hrow, by rw [hp]; exact hnil⟩, hB⟩
    · have hp : puts (pre ++ [x]) = ins (puts pre) x := by rw [puts_snoc]; simp [put, h31]
      obtain ⟨k, hk⟩ : ∃ k, (ins (puts pre) x).length = k + 1 := by
        rcases hl : (ins (puts pre) x).length with _ | k
        · exact absurd (List.eq_nil_of_length_eq_zero hl) (ins_ne _ _)
        · exact ⟨k, rfl⟩
      have hbne : (x == 31) = false := by simpa using h31
      gi_wp2_with (refine ⟨trivial, ?_⟩; gi_at_call 188; refine (CallsIn.inRound l (callsIn_wide.2 (insert_own (bl + 2) _ (puts pre) x v W hn0 hpl (puts_sorted pre) hnil hrow))).mono ?_; rintro e w5 ⟨v', rfl, hown', hgrow⟩; rw [hk] at hown'; obtain ⟨g', cap', rfl⟩ := ownsRow_succ hown'; obtain ⟨hv1, hv2, hr2, hk2, hb2, hkp⟩ := Boxed.inserted hv (by decide) hrow hown' hgrow; have hc1 := hv1.cell; have hf1 := hv1.frozen)
      exact ⟨hk2.from _, hkp (bl + 1) (by omega) (by omega), ⟨_, hv2, by rw [hp, hk]; exact hr2, fun h => absurd (hp ▸ h) (ins_ne _ _)⟩, hB.trans (hb2 _ (by omega) (by omega) (by omega))⟩
  case done =>
    rintro D ys W hD rfl ⟨⟨v, hv, hrow, hnil⟩, hB⟩ hK
    have hc := hv.cell
    have hA := HA.out
    gi_wp2
    refine ⟨by simp, .inl ⟨_, _, rfl, run_takeDeferred hK, ?_⟩⟩
    exact ⟨_, results_tmp rfl _ _ _, v, rfl, ownsRow_mono (ownsRow_putObj hrow _ hK rfl) (by omega), hnil, hB0.trans (hB.trans (belowK_b (w := W0) (by omega) W D _ _ hD hK rfl rfl))⟩
  case stop =>
    rintro D c pre W _ _ h _
    exact h.elim
end Go.Proofs.Ytnbpgoacooddjaa.Fr
