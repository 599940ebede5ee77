import Derived.Test.YtnbpgoacooddjaaRows
import Derived.WalkKit
import Derived.ProofKit
import Derived.OpenShut
import Derived.Outline
import Derived.WalkSmall
import Derived.WalkLawsBesides
import Derived.WalkSpells
import Derived.BigGuardPart
import Derived.Lib.Hide
import Derived.Below
import Derived.Maps.Own
import Derived.Maps.OwnOps
import Derived.Maps.Keyed
namespace Go.Proofs.Ytnbpgoacooddjaa.Fr
end Go.Proofs.Ytnbpgoacooddjaa.Fr
namespace Go.Proofs.Ytnbpgoacooddjaa.En
open Go.Proofs.Ytnbpgoacooddjaa.Fr
open Go.ChangeShapes Go.WideShapes Go.ChangeAt Go.RowKit Go.Maps
set_option linter.unusedVariables false
theorem insert_own {H : Type} {P : Program} (w : World) {ops : Array Oper} {rest : List Oper} {o : Oper} {a : Act} {Q : Exit → Act → World → Prop}
    (hg : o.guard = none) (m x v : Operand) (t : TypeId) (hop : o.op = Op.insert t m x v)
    (k e : TypeId) (K : Keyed P k) (ht : P.underlying t = some (.map k e)) (R : Value → Option (DataW H × List MemPlace)) (b n : Nat) (D : DataW H)
    (hm : a.eval m = .map (some b)) (hown : w.ownsMap P k R b n D) (hn : n < maxLen) (key val : Value) (kl : Lit) (hx : a.eval x = key) (hv : a.eval v = val) (hkey : keyOf P k key = some kl)
    (d : DataW H) (ps : List MemPlace) (hval : R val = some (d, ps))
    (hK : ∀ w', w'.ownsMap P k R b (n + 1) (D.put kl d) → w.grownBy w' (some b) → wpList P ops Q rest (a.put o.dst undef) w') :
    wpList P ops Q (o :: rest) a w := by
  refine wpList_plain hg fun K' hK' => ?_
  obtain ⟨w', hrun, r1, r2⟩ := hown.update K ht hn hkey hval
  unfold Oper.wp
  simp [execOp, hop, hm, hx, hv, hrun, Result.andThen]
  exact hK' _ _ (hK w' r1 r2)
theorem law3 : Keyed Try.prog 3 := int_keyed Try.underlying3
theorem zero25 (w : World) : (zeroValue 54).run Try.prog w = .ok (.int .u32 0) w := by kernel_rfl
/-- What the map holds. -/
def puts42 {H : Type} : List (Int × Int) → DataW H → DataW H
  | [], D => D
  | (k, v) :: l, D => puts42 l (D.put (.int .i64 k) (.lit (.int .u32 v)))
def tabL : List (Int × Int) := [(1, 3573751839), (2, 3531603968), (3, 4068474880), (4, 2432696320), (5, 3506438144), (6, 4043309056), (7, 2332033024), (8, 3405774848), (9, 3942645760), (10, 2315255808), (11, 2852126720), (12, 3388997632), (13, 2600468480), (14, 2600501248), (15, 2596277248), (16, 2596282368), (17, 2596283392), (18, 2596284416), (19, 2592080896), (20, 335544320), (24, 2483027968), (21, 1409286144), (22, 3019898880), (23, 3036676096), (25, 3592355840), (26, 3594452992), (27, 3596550144), (28, 4181721088), (29, 4177526784), (30, 960495616), (31, 4167071744), (32, 4162877440), (33, 3370122240), (34, 3365927936), (35, 3361700864), (36, 3355474944), (37, 3573758911), (38, 3573758879), (39, 3573759967), (40, 3574299424), (41, 3574297888), (42, 3556769793)]
def DD {H : Type} : DataW H := puts42 tabL (.map [])
/-- The bases, in their order. -/
def baseL : List Int := [0, 3573751839, 3531603968, 4068474880, 2432696320, 3506438144, 4043309056, 2332033024, 3405774848, 3942645760, 2315255808, 2852126720, 3388997632, 2600468480, 2600501248, 2596277248, 2596282368, 2596283392, 2596284416, 2592080896, 335544320, 1409286144, 3019898880, 3036676096, 2483027968, 3592355840, 3594452992, 3596550144, 4181721088, 4177526784, 960495616, 4167071744, 4162877440, 3370122240, 3365927936, 3361700864, 3355474944, 3573758911, 3573758879, 3573759967, 3574299424, 3574297888, 3556769793]
def baseT (op : Int) : Int := if 0 ≤ op ∧ op ≤ 42 then baseL.getD op.toNat 0 else 0
def isEntry : Lit × DataW Unit → Bool := fun p => match p.1 with | .int .i64 j => decide (1 ≤ j) && decide (j ≤ 42) | _ => false
set_option maxRecDepth 100000 in
set_option maxHeartbeats 4000000 in
theorem bases_c (w : World) : Calls Try.prog 165 #[] w fun e w' => e = .returned (.map (some w.heap.size)) ∧ w'.ownsMap Try.prog 3 (plainElem (H := Unit) Try.prog 54) w.heap.size 42 DD ∧ Below w.heap.size w w' := by
  have hmm := @run_makeMap Try.prog
  have HM := Lib.hid (World.ownsMap_made (H := Unit) w Try.prog 3 (plainElem Try.prog 54))
  have HB : Hid (Below w.heap.size w (w.alloc (.map #[] 0))) := Lib.hid ((Below.refl _ _).alloc (Nat.le_refl _) _)
  go_enter Try.func165, Try.ntmps165
  go_wp2_with (refine insert_own _ rfl _ _ _ 235 rfl 3 54 law3 Try.underlying235 _ _ _ _ rfl HM.out (by unfold maxLen; omega) _ _ _ rfl rfl (keyOf_int_mk Try.underlying3 (by decide)) _ [] (plainElem_int Try.underlying54 (by decide)) ?_; clear HM; intro w1 h1 g1; have HM := Lib.hid h1; replace HB := Lib.hid (HB.out.grown g1 HB.out.size (fun j hj => by cases hj; exact Nat.le_refl _)); clear h1 g1)
  go_ret
  exact ⟨rfl, HM.out, HB.out⟩
def ents {H : Type} (D : DataW H) : List (Lit × DataW H) := match D with | .map l => l | _ => []
theorem DD_ents : DD (H := Unit) = .map (ents DD) := by kernel_rfl
theorem DD_keys : (ents (DD (H := Unit))).all isEntry = true := by decide +kernel
theorem look_in : ((List.range 43).all fun n => match (DD (H := Unit)).atKey (.int .i64 n) (.lit (.int .u32 0)) with | .lit (.int .u32 c) => c == baseT n | _ => false) = true := by decide +kernel
theorem look_c (op c : Int) (h : (DD (H := Unit)).atKey (.int .i64 op) (.lit (.int .u32 0)) = .lit (.int .u32 c)) : c = baseT op := by
  by_cases hr : 0 ≤ op ∧ op ≤ 42
  · obtain ⟨n, rfl⟩ := Int.eq_ofNat_of_zero_le hr.1
    have := List.all_eq_true.1 look_in n (List.mem_range.2 (by omega))
    rw [h] at this
    simpa using this
  · rw [DD_ents] at h
    have hf : (ents (DD (H := Unit))).find? (fun p => p.1.sameKey (.int .i64 op)) = none := by
      refine List.find?_eq_none.2 fun p hp => ?_
      have hk := List.all_eq_true.1 DD_keys p hp
      obtain ⟨l, d⟩ := p
      unfold isEntry at hk
      split at hk
      · rename_i j hj
        simp only at hj
        subst hj
        simp at hk
        simp [Lit.sameKey]
        omega
      · cases hk
    simp only [DataW.atKey, hf] at h
    injection h with h
    injection h with _ h
    rw [baseT, if_neg hr]
    exact h.symm
end Go.Proofs.Ytnbpgoacooddjaa.En
