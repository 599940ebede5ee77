import Derived.Lib.AppendZerosOnto
import Derived.Maps.AppendAt
import Derived.Laws.OwnMore
import Derived.Lib.SliceRun
import Derived.Laws.BitsLemmas
import Derived.IntWalk
import Derived.Laws.BitsAllLaws
import Derived.Deep.DrawnRows
import Derived.Test.YtpiafgmncfibmaaWg
import Derived.Test.YtpiafgmncfibmaaFw
import Derived.Test.YtpiafgmncfibmaaRows
import Derived.WalkKit
import Derived.ProofKit
import Derived.OpenShut
import Derived.Deep.QuietTactic
import Derived.BigQuiet
import Derived.Outline
import Derived.WalkSmall
import Derived.WalkLawsBesides
import Derived.WalkSpells
import Derived.BigGuardPart
import Derived.RegionTactic
import Derived.Deep.RegionHeld3
import Derived.Lib.Hide
import Derived.Deep.MidRow
import Derived.Below
import Derived.Deep.RegionWith
import Derived.Deep.OwnRows
import Derived.Deep.AppendLies
import Derived.Deep.RegionLaw
import Derived.Deep.CutBlock
import Derived.Deep.DeepCutAuto
namespace Go.Proofs.Ytpiafgmncfibmaa.Vf
open Go.ChangeShapes Go.WideShapes Go.ChangeAt Go.RowKit
set_option linter.unusedVariables false

theorem rdC_ok {n : Nat} {D : Nat → Nat} {k : Nat} (h : rdE n D k = 0) : rdC n D k = #[.int .i64 (D k : Nat), .int .i64 (opA D k), .int .i64 (opB D k), .int .i64 (szK (kindO (D k)) : Nat)] := by
  unfold rdC
  rw [if_pos h]
  rfl
/-- ints (30): the same rows. -/
theorem ints_c (a b : Option Addr) (ca cb : Nat) (l : List Int) (w : World) (hI : Ints w a l) (hJ : Ints w b l) (hl : l.length ≤ 100000) : Calls Try.prog 30 #[.slice a l.length ca, .slice b l.length cb] w fun e w' => e = .returned (.bool true) ∧ Below w.heap.size w w' := by
  have HI := Lib.hid hI
  have HJ := Lib.hid hJ
  generalize hn : l.length = n at hl ⊢
  have HN := Lib.hid hn
  clear hI hJ hn
  go_enter Try.func30, Try.ntmps30
  go_wp2_with fail
  go_loopw [5] (fun i wr => ∃ k : Nat, k ≤ n ∧ i = .int .i64 k ∧ Hid (Below w.heap.size w wr)) (fun i _ => n - (intOf i).toNat)
  case atStart => exact ⟨0, Nat.zero_le _, rfl, Lib.hid (Below.refl _ _)⟩
  case round =>
    obtain ⟨k, hk, rfl, HW⟩ := hrel
    by_cases hkn : k < n
    · have hki : (k : Int) < n := by omega
      obtain ⟨b1, o1, rfl, hb1, hc1⟩ := (HI.out.kept (Kept.of HW.out)).at (by rw [HN.out]; omega)
      obtain ⟨b2, o2, rfl, hb2, hc2⟩ := (HJ.out.kept (Kept.of HW.out)).at (by rw [HN.out]; omega)
      have y1 : wr.cell? ⟨b1, o1 + k, none⟩ = some (.int .i64 (l.getD k 0)) := hc1 k (by rw [HN.out]; exact hkn)
      have y2 : wr.cell? ⟨b2, o2 + k, none⟩ = some (.int .i64 (l.getD k 0)) := hc2 k (by rw [HN.out]; exact hkn)
      generalize l.getD k 0 = z at y1 y2
      have dz : (z != z) = false := by simp
      clear hc1 hc2
      go_wp2_with fail
      go_quiet (fail)
      go_wp2
      exact ⟨⟨k + 1, by omega, by go_num, Lib.hid (HW.out.trans (below_drewN (Below.refl _ _) _))⟩, by simp [intOf]; omega⟩
    · go_wp2
      go_ret
      exact ⟨rfl, HW.out⟩
/-- What stands while the law goes over the places. -/
structure ShI (K : Fk) (X : Fx) (lo : Nat) (w V : World) : Prop where
  f : FlC K V (inL (begs K.n K.D K.n 0)) (flowF K.P K.m) X lo
  p : Bx V w.heap.size #[.slice K.A.pa K.P.np K.A.pc, .slice K.A.ca K.P.nc K.A.cc, .slice K.A.ma K.P.nm K.A.mc] 26
  l : Below w.heap.size w V
theorem ShI.below {K : Fk} {X : Fx} {lo : Nat} {w V V' : World} (h : ShI K X lo w V) (k : Below V.heap.size V V') : ShI K X lo w V' := ⟨h.f.below k, h.p.below k, h.l.trans (k.mono h.l.size)⟩
structure ShK (K : Fk) (X : Fx) (lo k t10 : Nat) (w V : World) : Prop where
  i : ShI K X lo w V
  x : Bx V t10 #[.int .i64 (K.D k : Nat), .int .i64 (opA K.D k), .int .i64 (opB K.D k), .int .i64 (szK (kindO (K.D k)) : Nat)] 74
theorem ShK.below {K : Fk} {X : Fx} {lo k t10 : Nat} {w V V' : World} (h : ShK K X lo k t10 w V) (b : Below V.heap.size V V') : ShK K X lo k t10 w V' := ⟨h.i.below b, h.x.below b⟩
theorem ShK.make {K : Fk} {X : Fx} {lo k t10 : Nat} {w W : World} (h : ShK K X lo k t10 w W) : ∃ V t12, V = W.alloc (.cells #[.slice none 0 0, .int .i64 0] 71) ∧ t12 = W.heap.size ∧ Bx V t12 #[.slice none 0 0, .int .i64 0] 71 ∧ Below W.heap.size W V :=
  ⟨_, _, rfl, rfl, Bx.new _ _ _, (Below.refl _ _).alloc (Nat.le_refl _) _⟩
/-- A place's bytecode and what stands behind it. -/
structure ShJ (K : Fk) (X : Fx) (lo k t10 t12 : Nat) (ra : Option Addr) (rc : Nat) (sh : Sh) (w V : World) : Prop where
  i : ShI K X lo w V
  x : Bx V t10 #[.int .i64 (K.D k : Nat), .int .i64 (opA K.D k), .int .i64 (opB K.D k), .int .i64 (szK (kindO (K.D k)) : Nat)] 74
  y : Bx V t12 #[.slice ra sh.l.length rc, .int .i64 sh.h] 71
  n : Ints V ra sh.l
theorem ShJ.below {K : Fk} {X : Fx} {lo k t10 t12 : Nat} {ra : Option Addr} {rc : Nat} {sh : Sh} {w V V' : World} (h : ShJ K X lo k t10 t12 ra rc sh w V) (b : Below V.heap.size V V') : ShJ K X lo k t10 t12 ra rc sh w V' := ⟨h.i.below b, h.x.below b, h.y.below b, h.n.kept (Kept.of b)⟩
theorem getD_mem {l : List Int} {q : Nat} (h : q < l.length) : l.getD q 0 ∈ l := by
  rw [List.getD_eq_getElem?_getD, List.getElem?_eq_getElem h]
  exact List.getElem_mem h
/-- The flow's shape at a place that the list names. -/
def OnL (K : Fk) (sh : Sh) (L : List Int) : Prop := ∀ z, z ∈ L → ∃ t : Nat, z = (t : Int) ∧ t < K.n ∧ (flowF K.P K.m).H t = true ∧ (flowF K.P K.m).S t = sh
theorem own_alloc {W : World} {B e s n : Nat} {v : Value} {xs : List Value} (h : W.ownsRow B e s v n xs) (o : Obj) : (W.alloc o).ownsRow B e s v n xs := by
  refine ⟨h.1, ?_⟩
  rcases h.2 with h | ⟨g, cap, cur, h1, h2, h3, h4⟩
  · exact .inl h
  · exact .inr ⟨g, cap, cur, h1, h2, (heap_alloc_old W o (Array.getElem?_eq_some_iff.1 h3).1).trans h3, h4⟩
theorem app_one (W : World) (base n : Nat) (v : Value) (xs : List Int) (z : Int) (ho : W.ownsRow base 3 1 v n (xs.map (.int .i64))) (hn : n ≤ 1000) (hb : base ≤ W.heap.size) : ∃ a c W', (Builtin.append_ #[48, 48] 48 #[v, .slice (some ⟨W.heap.size, 0, none⟩) 1 1]).run Try.prog (W.alloc (.cells #[.int .i64 z] 3)) = .ok (.slice a (n + 1) c) W' ∧ W'.ownsRow base 3 1 (.slice a (n + 1) c) (n + 1) ((xs ++ [z]).map (.int .i64)) ∧ Below base W W' := by
  have ho2 := own_alloc ho (.cells #[.int .i64 z] 3)
  have hI : Ints (W.alloc (.cells #[.int .i64 z] 3)) (some ⟨W.heap.size, 0, none⟩) [z] := .inr ⟨W.heap.size, 0, rfl, by rw [World.size_alloc]; exact Nat.lt_succ_self _, fun i hi => by
    have : i = 0 := Nat.lt_one_iff.1 hi
    subst this
    exact (Bx.new W #[.int .i64 z] 3).cell 0⟩
  obtain ⟨v', W', h1, h2, h3, h4⟩ := app_ints (W.alloc (.cells #[.int .i64 z] 3)) base n v xs [z] (some ⟨W.heap.size, 0, none⟩) 1 ho2 hI (by simp; omega) (by rw [World.size_alloc]; omega)
  obtain ⟨a, c, rfl⟩ := own_slice h2
  exact ⟨a, c, W', h1, h2, ((Below.refl _ _).alloc hb _).trans (own_below ho2 (by rw [World.size_alloc]; omega) h3)⟩
end Go.Proofs.Ytpiafgmncfibmaa.Vf
