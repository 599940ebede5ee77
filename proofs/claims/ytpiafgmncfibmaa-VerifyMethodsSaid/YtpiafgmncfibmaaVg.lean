import Derived.Lib.AppendZerosOnto
import Derived.Maps.AppendAt
import Derived.Laws.OwnMore
import Derived.Lib.SliceRun
import Derived.Laws.BitsLemmas
import Derived.IntWalk
import Derived.Laws.BitsAllLaws
import Derived.Deep.DrawnRows
import Derived.Test.YtpiafgmncfibmaaVt
import Derived.Test.YtpiafgmncfibmaaRows
import Derived.WalkKit
import Derived.ProofKit
import Derived.OpenShut
import Derived.Deep.QuietTactic
import Derived.BigQuiet
import Derived.Outline
import Derived.WalkSmall
import Derived.WalkLawsBesides
import Derived.WalkSpells
import Derived.BigGuardPart
import Derived.RegionTactic
import Derived.Deep.RegionHeld3
import Derived.Lib.Hide
import Derived.Deep.MidRow
import Derived.Below
import Derived.Deep.RegionWith
import Derived.Deep.OwnRows
import Derived.Deep.AppendLies
import Derived.Deep.RegionLaw
import Derived.Deep.CutBlock
import Derived.Deep.DeepCutAuto
namespace Go.Proofs.Ytpiafgmncfibmaa.Vf
open Go.ChangeShapes Go.WideShapes Go.ChangeAt Go.RowKit
set_option linter.unusedVariables false

theorem append_none (W : World) (base : Nat) (v : Value) (n c : Nat) (xs : List Value) (h : W.ownsRow base 3 1 v n xs) : (Builtin.append_ #[48, 48] 48 #[v, .slice none 0 c]).run Try.prog W = .ok v W := by
  obtain ⟨i0, hi, hz0, hz1, hz2⟩ := info_parts info3x
  rcases h.2 with ⟨rfl, rfl⟩ | ⟨g, cap, cur, rfl, _, _, hnc, _⟩
  · simp [Builtin.append_, run_underlying Try.underlying48, sizeOf, typeInfo, hi, Builtin.lenOf, Builtin.firstCells]
  · simp [Builtin.append_, run_underlying Try.underlying48, sizeOf, typeInfo, hi, Builtin.lenOf, Builtin.firstCells, hnc, storeCells]
theorem own_below {w w' : World} {B n s : Nat} {e : TypeId} {v : Value} {xs : List Value} (ho : w.ownsRow B e s v n xs) (hB : B ≤ w.heap.size) (h : w.grownBy w' v.ownBlock) : Below B w w' := by
  rcases ho.2 with ⟨rfl, _⟩ | ⟨g, cap, cur, rfl, hb, _⟩
  · exact ⟨h.os, h.tape, h.output, h.size, fun k hk => h.block k (by omega) (by simp [Value.ownBlock])⟩
  · exact ⟨h.os, h.tape, h.output, h.size, fun k hk => h.block k (by omega) (by simp [Value.ownBlock]; omega)⟩
def AppI (W : World) (base n : Nat) (v : Value) (xs l : List Int) (a : Option Addr) (c : Nat) : Prop := ∃ v' W', (Builtin.append_ #[48, 48] 48 #[v, .slice a l.length c]).run Try.prog W = .ok v' W' ∧ W'.ownsRow base 3 1 v' (n + l.length) ((xs ++ l).map (.int .i64)) ∧ W.grownBy W' v.ownBlock ∧ (v'.ownBlock = v.ownBlock ∨ v'.ownBlock = some W.heap.size)
theorem app_ints (W : World) (base n : Nat) (v : Value) (xs l : List Int) (a : Option Addr) (c : Nat) (ho : W.ownsRow base 3 1 v n (xs.map (.int .i64))) (hI : Ints W a l) (hn : n + l.length ≤ 100000) (hb : base ≤ W.heap.size) : AppI W base n v xs l a c := by
  obtain ⟨i0, hi, hz0, hz1, hz2⟩ := info_parts info3x
  cases a with
  | none =>
    have h0 : l.length = 0 := by
      rcases hI with h | ⟨b, o, h, _⟩
      · exact h
      · cases h
    obtain rfl : l = [] := List.length_eq_zero_iff.1 h0
    exact ⟨v, W, append_none W base v n c _ ho, by simpa using ho, ⟨rfl, rfl, rfl, Nat.le_refl _, fun _ _ _ => rfl⟩, .inl rfl⟩
  | some ad =>
    obtain ⟨v', W', h2, h3, h4, _, h5⟩ := run_append_own_at (P := Try.prog) (w := W) base 48 48 3 i0 (.int .i64 0) 1 8 Try.underlying48 hi hz0 hz1 hz2 rfl (by decide) v n (xs.map (.int .i64)) ho ad l.length c (l.map (.int .i64)) (by simp) (fun j u hu => by
      have hj : j < l.length := by have := (List.getElem?_eq_some_iff.1 hu).1; simpa using this
      obtain ⟨b, o, hA, hb, hc⟩ := hI.at (by omega)
      obtain rfl := Option.some.inj hA
      rw [List.getElem?_map, getD_eq hj] at hu
      rw [Go.WideShapes.add_plain, hc j hj]
      exact hu) (fun u hu => by obtain ⟨z, _, rfl⟩ := List.mem_map.1 hu; rfl) (by unfold maxLen; omega) (by omega) hb
    exact ⟨v', W', h2, by rw [List.map_append]; exact h3, h4, h5⟩
def GrowR (n : Nat) (w : World) (e : Ending) (w' : World) : Prop := ∃ v, e = .returned v ∧ w'.ownsRow w.heap.size 3 1 v 0 [] ∧ Below w.heap.size w w'
set_option maxRecDepth 100000 in
theorem grow_c (n : Nat) (w : World) (hn : n ≤ 100000) : Calls Try.prog 101 #[.slice none 0 0, .int .i64 n] w (GrowR n w) := by
  obtain ⟨i0, hi, hz0, hz1, hz2⟩ := info_parts info3x
  by_cases h0 : n = 0
  · subst h0
    clear hi hz0 hz1 hz2
    go_enter Try.func101, Try.ntmps101
    go_wp2
    go_ret
    exact ⟨_, rfl, ⟨rfl, .inl ⟨rfl, rfl⟩⟩, Below.refl _ _⟩
  have hold : (Builtin.firstCells i0.size 0 (.slice none 0 0)).run Try.prog w.drew = .ok (([] : List Value).toArray) w.drew := run_firstCells_none w.drew i0.size 0 0 0
  have hrz := fun ty => Lib.run_append_grow_zeros w 48 3 ty 3 i0 (.int .i64 0) .i64 .i64 Try.underlying48 Try.underlying3 hi hz0 none 0 0 [] hold n (by omega) (by rw [hz1]; decide) (by omega) (by omega) (by rw [hz2]; omega) (by rw [hz2]; exact growslice_fits (by omega) (by omega))
  have hge := grownCap_ge w (0 + n) 0 3
  have hle := grownCap_le_maxLen w (0 + n) 0 3 (by unfold maxLen; omega)
  rw [Nat.zero_add] at hrz hge hle
  obtain ⟨G, hG⟩ : ∃ G, G = grownCap w n 0 3 := ⟨_, rfl⟩
  rw [← hG] at hge hle
  have HRZ : Hid (∀ ty, (Builtin.append_ #[48, 3] ty #[.slice none 0 0, .int .i64 n]).run Try.prog w = .ok (.slice (some ⟨w.heap.size, 0, none⟩) n G) (w.drew.alloc (.cells ((([] : List Value).toArray) ++ Builtin.zeroCells (Value.int .i64 0).cells n ++ Builtin.zeroCells (Value.int .i64 0).cells (G - n)) 3))) := Lib.hid (by rw [hG]; exact hrz)
  clear hrz hG hold hi hz0 hz1 hz2
  unfold maxLen at hle
  have hp : (0 : Int) < n := by omega
  go_enter Try.func101, Try.ntmps101
  go_wp2_with (at_builtin; refine Lib.wpList_append_run _ rfl _ _ _ _ rfl _ _ rfl rfl _ _ (HRZ.out _) ?_)
  all_goals
    go_ret
    refine ⟨_, rfl, ⟨rfl, .inr ⟨w.heap.size, G, _, rfl, Nat.le_refl _, heap_alloc_new w.drew _, Nat.zero_le _, by unfold maxLen; omega, ?_, rfl⟩⟩, ((Below.refl _ _).drew).alloc (Nat.le_refl _) _⟩
    simp only [Builtin.zeroCells]
    rw [Array.size_append, Array.size_map, Array.size_map, Array.size_range, Array.size_range]
    show n * 1 + (G - n) * 1 = G * 1
    omega
set_option maxRecDepth 100000 in
set_option maxHeartbeats 4000000 in
theorem concat_c (g : Nat) (a1 a2 : Option Addr) (c1 c2 : Nat) (l1 l2 : List Int) (w : World) (h1 : l1.length ≤ 30000) (h2 : l2.length ≤ 30000) (hg : g < w.heap.size) (x0 : w.cell? ⟨g, 0, none⟩ = some (.slice a1 l1.length c1)) (x1 : w.cell? ⟨g, 1, none⟩ = some (.slice a2 l2.length c2)) (i1 : Ints w a1 l1) (i2 : Ints w a2 l2) :
    Calls Try.prog 72 #[.slice (some ⟨g, 0, none⟩) 2 2] w (NewInts (l1 ++ l2) w) := by
  have HI : Hid (Ints w a1 l1 ∧ Ints w a2 l2) := Lib.hid ⟨i1, i2⟩
  have HL : Hid ((l1 ++ l2).length = l1.length + l2.length) := Lib.hid (by simp)
  have HA1 : Hid (∀ W base n v xs, W.ownsRow base 3 1 v n (xs.map (.int .i64)) → Below w.heap.size w W → n + l1.length ≤ 100000 → base ≤ W.heap.size → AppI W base n v xs l1 a1 c1) := Lib.hid fun W base n v xs ho hb hn hB => app_ints W base n v xs l1 a1 c1 ho (i1.kept (Kept.of hb)) hn hB
  have HA2 : Hid (∀ W base n v xs, W.ownsRow base 3 1 v n (xs.map (.int .i64)) → Below w.heap.size w W → n + l2.length ≤ 100000 → base ≤ W.heap.size → AppI W base n v xs l2 a2 c2) := Lib.hid fun W base n v xs ho hb hn hB => app_ints W base n v xs l2 a2 c2 ho (i2.kept (Kept.of hb)) hn hB
  unfold AppI at HA1 HA2
  generalize hn1 : l1.length = n1 at h1 x0 HA1 HL ⊢
  generalize hn2 : l2.length = n2 at h2 x1 HA2 HL ⊢
  have HN := Lib.hid (And.intro hn1 hn2)
  clear i1 i2 hn1 hn2
  go_enter Try.func72, Try.ntmps72
  go_wp2_with fail
  refine wp_loop_rounds 3 ?_
  rw [rounds_succ]
  go_wp2_with fail
  rw [rounds_succ]
  go_wp2_with fail
  rw [rounds_succ]
  go_wp2_with fail
  rw [show (n1 : Int) + (n2 : Int) = ((n1 + n2 : Nat) : Int) by omega]
  refine (grow_c (n1 + n2) w (by omega)).mono ?_
  rintro e w1 ⟨v1, rfl, ho, hb⟩
  obtain ⟨v2, W2, hr2, ho2, hg2, _⟩ := HA1.out w1 w.heap.size 0 v1 [] ho hb (by omega) hb.size
  have hb2 := hb.trans (own_below ho hb.size hg2)
  obtain ⟨v3, W3, hr3, ho3, hg3, _⟩ := HA2.out W2 w.heap.size _ v2 _ ho2 hb2 (by omega) hb2.size
  have hb3 := hb2.trans (own_below ho2 hb2.size hg3)
  have y0 : w1.cell? ⟨g, 0, none⟩ = some (.slice a1 n1 c1) := (hb.cell (p := ⟨g, 0, none⟩) hg).trans x0
  have y1 : W2.cell? ⟨g, 1, none⟩ = some (.slice a2 n2 c2) := (hb2.cell (p := ⟨g, 1, none⟩) hg).trans x1
  have HR2 := Lib.hid hr2
  have HR3 := Lib.hid hr3
  have HO := Lib.hid ho3
  have HB := Lib.hid hb3
  clear hb hb2 hb3 ho ho2 ho3 hg2 hg3 hr2 hr3 x0 x1
  go_wp2_with fail
  refine wp_loop_rounds 3 ?_
  rw [rounds_succ]
  go_wp2_with (at_builtin; refine Lib.wpList_append_run _ rfl _ _ _ _ rfl _ _ rfl rfl _ _ HR2.out ?_)
  rw [rounds_succ]
  go_wp2_with (at_builtin; refine Lib.wpList_append_run _ rfl _ _ _ _ rfl _ _ rfl rfl _ _ HR3.out ?_)
  rw [rounds_succ]
  go_wp2
  go_ret
  have hO := HO.out
  rw [List.nil_append, Nat.zero_add] at hO
  obtain ⟨a, c, rfl⟩ := own_slice hO
  refine ⟨a, c, by rw [HL.out]; rfl, Ints.own hO HL.out, by rw [HL.out]; exact own_fit hO, own_past0 hO, HB.out⟩
end Go.Proofs.Ytpiafgmncfibmaa.Vf
