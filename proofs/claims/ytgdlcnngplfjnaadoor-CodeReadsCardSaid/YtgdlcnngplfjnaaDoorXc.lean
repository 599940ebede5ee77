import Derived.Lib.AppendZerosOnto
import Derived.Maps.AppendAt
import Derived.Laws.OwnMore
import Derived.Lib.SliceRun
import Derived.Laws.BitsLemmas
import Derived.IntWalk
import Derived.Laws.BitsAllLaws
import Derived.Deep.DrawnRows
import Derived.Test.YtgdlcnngplfjnaaDoorXb
import Derived.Test.YtgdlcnngplfjnaaDoorZz
import Derived.Test.YtgdlcnngplfjnaaDoorVg
import Derived.Test.YtgdlcnngplfjnaaDoorRows
import Derived.WalkKit
import Derived.ProofKit
import Derived.OpenShut
import Derived.Deep.QuietTactic
import Derived.BigQuiet
import Derived.Outline
import Derived.WalkSmall
import Derived.WalkLawsBesides
import Derived.WalkSpells
import Derived.BigGuardPart
import Derived.RegionTactic
import Derived.Deep.RegionHeld3
import Derived.Lib.Hide
import Derived.Deep.MidRow
import Derived.Below
import Derived.Deep.RegionWith
import Derived.Deep.OwnRows
import Derived.Deep.AppendLies
import Derived.Deep.RegionLaw
import Derived.Deep.CutBlock
import Derived.Deep.DeepCutAuto
namespace Go.Proofs.YtgdlcnngplfjnaaDoor.Vf
open Go.ChangeShapes Go.WideShapes Go.ChangeAt Go.RowKit
set_option linter.unusedVariables false



theorem app_one2 (W : World) (base n : Nat) (v : Value) (xs : List Int) (z : Int) (ho : W.ownsRow base 3 1 v n (xs.map (.int .i64))) (hn : n ≤ 90000) (hb : base ≤ W.heap.size) : ∃ a c W', (Builtin.append_ #[33, 33] 33 #[v, .slice (some ⟨W.heap.size, 0, none⟩) 1 1]).run Tryd.prog (W.alloc (.cells #[.int .i64 z] 3)) = .ok (.slice a (n + 1) c) W' ∧ W'.ownsRow base 3 1 (.slice a (n + 1) c) (n + 1) ((xs ++ [z]).map (.int .i64)) ∧ Below base W W' ∧ ∀ b, b < W.heap.size → some b ≠ v.ownBlock → W'.heap[b]? = W.heap[b]? := by
  have ho2 := own_alloc2 ho (.cells #[.int .i64 z] 3)
  have hI : Ints (W.alloc (.cells #[.int .i64 z] 3)) (some ⟨W.heap.size, 0, none⟩) [z] := .inr ⟨W.heap.size, 0, rfl, by rw [World.size_alloc]; exact Nat.lt_succ_self _, fun i hi => by
    have : i = 0 := Nat.lt_one_iff.1 hi
    subst this
    exact (Bx.new W #[.int .i64 z] 3).cell 0⟩
  obtain ⟨v', W', h1, h2, h3, h4⟩ := app_ints (W.alloc (.cells #[.int .i64 z] 3)) base n v xs [z] (some ⟨W.heap.size, 0, none⟩) 1 ho2 hI (by simp; omega) (by rw [World.size_alloc]; omega)
  obtain ⟨a, c, rfl⟩ := own_slice h2
  refine ⟨a, c, W', h1, h2, ((Below.refl _ _).alloc hb _).trans (own_below ho2 (by rw [World.size_alloc]; omega) h3), fun b hb hne => ?_⟩
  rw [h3.block b (by rw [World.size_alloc]; omega) hne]
  exact heap_alloc_old W _ hb
/-- What Places tells. -/
def PlcP (n : Nat) (D : Nat → Nat) (w : World) (e : Ending) (w' : World) : Prop :=
  Below w.heap.size w w' ∧ if (rdR n D).2 = 0 then ∃ a c, e = .returned (.tuple #[.slice a (begs n D n 0).length c, .int .i64 0, .int .i64 0]) ∧ Ints w' a ((begs n D n 0).map Int.ofNat)
  else e = .returned (.tuple #[.slice none 0 0, .int .i64 (rdR n D).2, .int .i64 ((rdR n D).1 : Nat)])
theorem rdC_ok2 {n : Nat} {D : Nat → Nat} {k : Nat} (h : rdE n D k = 0) : rdC n D k = #[.int .i64 (D k : Nat), .int .i64 (opA D k), .int .i64 (opB D k), .int .i64 (szK (kindO (D k)) : Nat)] := by
  unfold rdC
  rw [if_pos h]
  rfl

/-- What stands at the head of Places' loop. -/
structure PlI (n : Nat) (D : Nat → Nat) (w : World) (v : Value) (k : Nat) (l : List Nat) (V : World) : Prop where
  o : V.ownsRow w.heap.size 3 1 v l.length ((l.map Int.ofNat).map (.int .i64))
  b : Below w.heap.size w V
  r : ∃ f, n ≤ k + f ∧ begs n D n 0 = l ++ begs n D f k ∧ endP n D n 0 = endP n D f k
theorem PlI.len {n : Nat} {D : Nat → Nat} {w V : World} {v : Value} {k : Nat} {l : List Nat} (h : PlI n D w v k l V) : l.length ≤ n := by
  obtain ⟨f, _, h2, _⟩ := h.r
  have := begs_len n D n 0
  rw [h2, List.length_append] at this
  omega
theorem PlI.bad {n : Nat} {D : Nat → Nat} {w V : World} {v : Value} {k : Nat} {l : List Nat} (h : PlI n D w v k l V) (hk : k < n) (he : rdE n D k ≠ 0) : rdR n D = (k, rdE n D k) := by
  obtain ⟨f, h1, _, h3⟩ := h.r
  obtain ⟨f, rfl⟩ : ∃ q, f = q + 1 := ⟨f - 1, by omega⟩
  have h4 : endP n D (f + 1) k = k := by unfold endP; rw [if_pos hk, if_neg he]
  unfold rdR
  rw [h3, h4, if_pos hk]
theorem PlI.end {n : Nat} {D : Nat → Nat} {w V : World} {v : Value} {k : Nat} {l : List Nat} (h : PlI n D w v k l V) (hk : ¬ k < n) : rdR n D = (0, 0) ∧ begs n D n 0 = l := by
  obtain ⟨f, h1, h2, h3⟩ := h.r
  have h4 : endP n D f k = k := by
    cases f with
    | zero => rfl
    | succ f => unfold endP; rw [if_neg hk]
  have h5 : begs n D f k = [] := by
    cases f with
    | zero => rfl
    | succ f => unfold begs; rw [if_neg hk]
  refine ⟨?_, by rw [h2, h5, List.append_nil]⟩
  unfold rdR
  rw [h3, h4, if_neg hk]
theorem PlI.next {n : Nat} {D : Nat → Nat} {w V V' : World} {v v' : Value} {k : Nat} {l : List Nat} (h : PlI n D w v k l V) (hk : k < n) (he : rdE n D k = 0) (ho : V'.ownsRow w.heap.size 3 1 v' (l.length + 1) ((l.map Int.ofNat ++ [(k : Int)]).map (.int .i64))) (hb : Below w.heap.size w V') : PlI n D w v' (k + szK (kindO (D k))) (l ++ [k]) V' := by
  obtain ⟨f, h1, h2, h3⟩ := h.r
  obtain ⟨f, rfl⟩ : ∃ q, f = q + 1 := ⟨f - 1, by omega⟩
  have hs := szK_bd (kindO (D k))
  refine ⟨?_, hb, f, by omega, ?_, ?_⟩
  · rw [List.length_append, List.map_append]
    exact ho
  · rw [h2, List.append_assoc]
    congr 1
    show begs n D (f + 1) k = k :: begs n D f (k + szK (kindO (D k)))
    rw [begs, if_pos hk, if_pos he]
  · rw [h3, endP, if_pos hk, if_pos he]
set_option maxRecDepth 100000 in
set_option maxHeartbeats 4000000 in
theorem places_c (a : Option Addr) (n c : Nat) (D : Nat → Nat) (w : World) (hI : CodeIn w a n c D) : Calls Tryd.prog 13 #[.slice a n c] w (PlcP n D w) := by
  have HC := Lib.hid hI
  have hn := hI.big
  clear hI
  go_enter Tryd.func13, Tryd.ntmps13
  go_wp2_with fail
  go_loopw [5, 6] (fun v i wr => ∃ (k : Nat) (l : List Nat), k ≤ n + 3 ∧ i = .int .i64 k ∧ Hid (PlI n D w v k l wr)) (fun _ i _ => n + 4 - (intOf i).toNat)
  case atStart => exact ⟨0, [], Nat.zero_le _, rfl, Lib.hid ⟨World.ownsRow_nil _ _ _ _, Below.refl _ _, n, by omega, rfl, rfl⟩⟩
  case round =>
    obtain ⟨k, l, hk, rfl, HP⟩ := hrel
    have hll := HP.out.len
    by_cases hkn : k < n
    case neg =>
      obtain ⟨a', c', rfl⟩ := own_slice HP.out.o
      have HE : Hid (PlcP n D w (.returned (.tuple #[.slice a' l.length c', .int .i64 0, .int .i64 0])) wr) := Lib.hid (by
        obtain ⟨h1, h2⟩ := HP.out.end hkn
        refine ⟨HP.out.b, ?_⟩
        rw [h1, if_pos rfl, h2]
        exact ⟨a', c', rfl, Ints.own HP.out.o (by simp)⟩)
      go_wp2
      go_ret3
      exact HE.out
    have hki : (k : Int) < n := by omega
    have HR := Lib.hid (rread_c a n c D k wr (HC.out.kept (Kept.of HP.out.b)) hkn)
    go_wp2_with fail
    refine HR.out.mono ?_
    rintro e W1 ⟨rfl, hb⟩
    by_cases he : rdE n D k = 0
    case neg =>
      have HE : Hid (∀ V, Below W1.heap.size W1 V → PlcP n D w (.returned (.tuple #[.slice none 0 0, .int .i64 (rdE n D k), .int .i64 (k : Nat)])) V) := Lib.hid fun V hV => by
        have h1 := HP.out.bad hkn he
        refine ⟨HP.out.b.trans ((hb.trans (hV.mono hb.size)).mono HP.out.b.size), ?_⟩
        rw [h1, if_neg he]
      have hC : rdC n D k = #[.int .i64 0, .int .i64 0, .int .i64 0, .int .i64 0] := if_neg he
      rw [hC]
      have dE : (rdE n D k != 0) = true := by simpa using he
      generalize rdE n D k = er at dE HE ⊢
      clear hC he hb
      go_wp2
      go_ret3
      exact HE.out _ ((Below.refl _ _).alloc (Nat.le_refl _) _)
    rw [rdC_ok2 he, he]
    have HEz := Lib.hid he
    have hnx : k + szK (kindO (D k)) ≤ n := by
      unfold rdE at he
      split at he
      · cases he
      split at he
      · cases he
      omega
    have HO1 := Lib.hid (own_below2 HP.out.o hb)
    have HB1 := Lib.hid (HP.out.b.trans (hb.mono HP.out.b.size))
    have hsz1 := hb.size
    clear he hb HR
    obtain ⟨sz, hsz⟩ : ∃ q, szK (kindO (D k)) = q := ⟨_, rfl⟩
    have HSz := Lib.hid hsz
    rw [hsz] at hnx ⊢
    clear hsz
    go_upto_region 7 with fail
    obtain ⟨W2, hW2⟩ : ∃ q, q = W1.alloc (.cells #[.int .i64 (D k : Nat), .int .i64 (opA D k), .int .i64 (opB D k), .int .i64 (sz : Nat)] 29) := ⟨_, rfl⟩
    rw [← hW2]
    obtain ⟨t7, ht7⟩ : ∃ q, q = W1.heap.size := ⟨_, rfl⟩
    rw [← ht7]
    have HX : Hid (Bx W2 t7 #[.int .i64 (D k : Nat), .int .i64 (opA D k), .int .i64 (opB D k), .int .i64 (sz : Nat)] 29) := Lib.hid (by rw [hW2, ht7]; exact Bx.new _ _ _)
    have HO2 := Lib.hid (own_alloc2 HO1.out (.cells #[.int .i64 (D k : Nat), .int .i64 (opA D k), .int .i64 (opB D k), .int .i64 (sz : Nat)] 29))
    have HB2 := Lib.hid (HB1.out.alloc HB1.out.size (.cells #[.int .i64 (D k : Nat), .int .i64 (opA D k), .int .i64 (opB D k), .int .i64 (sz : Nat)] 29))
    rw [← hW2] at HO2 HB2
    have hne := own_blk HO1.out (Nat.le_of_eq ht7.symm)
    obtain ⟨a', c', V, hrun, ho3, hb3, hk3⟩ := app_one2 W2 w.heap.size l.length _ (l.map Int.ofNat) (k : Int) HO2.out (by omega) HB2.out.size
    have z3 : V.cell? ⟨t7, 3, none⟩ = some (.int .i64 (sz : Nat)) := (Bx.cell (C := #[.int .i64 (D k : Nat), .int .i64 (opA D k), .int .i64 (opB D k), .int .i64 (sz : Nat)]) (e := 29) ((hk3 t7 HX.out.lt hne).trans HX.out) 3)
    have HRun := Lib.hid hrun
    have HN : Hid (PlI n D w (.slice a' (l.length + 1) c') (k + sz) (l ++ [k]) V) := Lib.hid (HSz.out ▸ HP.out.next hkn HEz.out ho3 (HB2.out.trans hb3))
    clear hrun ho3 hb3 hk3 hne hW2 ht7
    have hs3 := szK_bd (kindO (D k))
    rw [HSz.out] at hs3
    go_wp2_with (at_builtin; refine Lib.wpList_append_run _ rfl _ _ _ _ rfl _ _ rfl rfl _ _ HRun.out ?_)
    exact ⟨⟨k + sz, l ++ [k], by omega, by go_num, HN⟩, by simp [intOf]; omega⟩
end Go.Proofs.YtgdlcnngplfjnaaDoor.Vf
