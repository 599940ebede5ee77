import Derived.Laws.BitsLemmas
import Derived.IntWalk
import Derived.Laws.BitsAllLaws
import Derived.Deep.DrawnRows
import Derived.Test.YtpiafgmncfibmaaWa
import Derived.Test.YtpiafgmncfibmaaRows
import Derived.WalkKit
import Derived.ProofKit
import Derived.OpenShut
import Derived.Deep.QuietTactic
import Derived.BigQuiet
import Derived.Outline
import Derived.WalkSmall
import Derived.WalkLawsBesides
import Derived.WalkSpells
import Derived.BigGuardPart
import Derived.RegionTactic
import Derived.Deep.RegionHeld3
import Derived.Lib.Hide
import Derived.Deep.MidRow
import Derived.Below
import Derived.Deep.RegionWith
import Derived.Deep.OwnRows
import Derived.Deep.AppendLies
import Derived.Deep.RegionLaw
import Derived.Deep.CutBlock
import Derived.Deep.DeepCutAuto
namespace Go.Proofs.Ytpiafgmncfibmaa.Vf
open Go.ChangeShapes Go.WideShapes Go.ChangeAt Go.RowKit
set_option linter.unusedVariables false

def methR (P : Pg) (m : Int) : Nat × Int := if P.chk ≠ 0 ∨ isIn m P.nm = false then (0, 1) else (if (flowR P m.toNat).2 = 0 then 0 else (flowR P m.toNat).1, (flowR P m.toNat).2)
def FlowO (P : Pg) (A : Ad) (m : Nat) (w : World) (p : Value) (w' : World) : Prop := ∃ w1, Below w.heap.size w w1 ∧ FlowOk P A m w1 p w'
def ShpP (P : Pg) (A : Ad) (m : Int) (w : World) (e : Ending) (w' : World) : Prop :=
  ∃ p, e = .returned (.tuple #[p, .int .i64 ((methR P m).1 : Nat), .int .i64 (methR P m).2]) ∧ Below w.heap.size w w' ∧ ((methR P m).2 = 0 → P.chk = 0 ∧ 0 ≤ m ∧ m < P.nm ∧ (flowR P m.toNat).2 = 0 ∧ FlowO P A m.toNat w p w')
theorem FlowO.more {P : Pg} {A : Ad} {m : Nat} {w0 w w' : World} {p : Value} (h : FlowO P A m w p w') (hb : Below w0.heap.size w0 w) : FlowO P A m w0 p w' := by
  obtain ⟨w1, h1, h2⟩ := h
  exact ⟨w1, hb.trans (h1.mono hb.size), h2⟩
theorem methR_1 {P : Pg} {m : Int} (h : P.chk ≠ 0) : methR P m = (0, 1) := if_pos (.inl h)
theorem methR_2 {P : Pg} {m : Int} (h : isIn m P.nm = false) : methR P m = (0, 1) := if_pos (.inr h)
theorem methR_3 {P : Pg} {m : Int} (h : P.chk = 0) (h2 : isIn m P.nm = true) : methR P m = (if (flowR P m.toNat).2 = 0 then 0 else (flowR P m.toNat).1, (flowR P m.toNat).2) := if_neg (fun q => q.elim (fun q => q h) (fun q => by rw [h2] at q; cases q))
theorem shpP_bad {P : Pg} {A : Ad} {m : Int} {w w' : World} (h : methR P m = (0, 1)) (hb : Below w.heap.size w w') : ShpP P A m w (.returned (.tuple #[.pointer none, .int .i64 0, .int .i64 1])) w' := by
  refine ⟨.pointer none, by rw [h]; rfl, hb, fun q => ?_⟩
  rw [h] at q
  cases q
theorem isIn_of {m : Int} {n : Nat} (h : isIn m n = true) : 0 ≤ m ∧ m < n := of_decide_eq_true h
set_option maxRecDepth 100000 in
set_option maxHeartbeats 8000000 in
theorem shapes_c (P : Pg) (A : Ad) (m : Int) (w : World) (h : PgAt w P A) (hf : Fits P A) (hc : Caps P A) : Calls Try.prog 60 #[.agg (P.cells A), .int .i64 m] w (ShpP P A m w) := by
  have HP := Lib.hid h
  have HFt := Lib.hid hf
  have HCp := Lib.hid hc
  have HB0 : Hid (Bx (w.alloc (.cells #[.slice A.pa P.np A.pc, .slice A.ca P.nc A.cc, .slice A.ma P.nm A.mc] 26)) w.heap.size #[.slice A.pa P.np A.pc, .slice A.ca P.nc A.cc, .slice A.ma P.nm A.mc] 26 ∧ Below w.heap.size w (w.alloc (.cells #[.slice A.pa P.np A.pc, .slice A.ca P.nc A.cc, .slice A.ma P.nm A.mc] 26))) := Lib.hid ⟨Bx.new _ _ _, (Below.refl _ _).alloc (Nat.le_refl _) _⟩
  clear h hf hc
  show Calls Try.prog 60 #[.agg #[.slice A.pa P.np A.pc, .slice A.ca P.nc A.cc, .slice A.ma P.nm A.mc], .int .i64 m] w _
  go_enter Try.func60, Try.ntmps60
  go_upto_region 1 with fail
  obtain ⟨W0, hW0⟩ : ∃ q, q = w.alloc (.cells #[.slice A.pa P.np A.pc, .slice A.ca P.nc A.cc, .slice A.ma P.nm A.mc] 26) := ⟨_, rfl⟩
  rw [← hW0] at HB0 ⊢
  clear hW0
  have x0 : W0.cell? ⟨w.heap.size, 0, none⟩ = some (.slice A.pa P.np A.pc) := HB0.out.1.cell 0
  have x1 : W0.cell? ⟨w.heap.size, 1, none⟩ = some (.slice A.ca P.nc A.cc) := HB0.out.1.cell 1
  have x2 : W0.cell? ⟨w.heap.size, 2, none⟩ = some (.slice A.ma P.nm A.mc) := HB0.out.1.cell 2
  have HC := Lib.hid (check_c P A W0 (HP.out.kept (Kept.of HB0.out.2)) HFt.out)
  go_wp2_with fail
  clear x0 x1 x2
  refine HC.out.mono ?_
  rintro e W1 ⟨rfl, hb1⟩
  have HB1 : Hid (Bx W1 w.heap.size #[.slice A.pa P.np A.pc, .slice A.ca P.nc A.cc, .slice A.ma P.nm A.mc] 26 ∧ Below w.heap.size w W1) := Lib.hid ⟨HB0.out.1.below hb1, HB0.out.2.trans (hb1.mono HB0.out.2.size)⟩
  clear HB0 hb1 HC
  have x0 : W1.cell? ⟨w.heap.size, 0, none⟩ = some (.slice A.pa P.np A.pc) := HB1.out.1.cell 0
  have x1 : W1.cell? ⟨w.heap.size, 1, none⟩ = some (.slice A.ca P.nc A.cc) := HB1.out.1.cell 1
  have x2 : W1.cell? ⟨w.heap.size, 2, none⟩ = some (.slice A.ma P.nm A.mc) := HB1.out.1.cell 2
  by_cases hk : P.chk = 0
  case neg =>
    have d0 : (P.chk != 0) = true := by simpa using hk
    have HK := Lib.hid hk
    clear hk
    go_wp2
    go_ret3
    exact shpP_bad (methR_1 HK.out) HB1.out.2
  have d0 : (P.chk != 0) = false := by simpa using hk
  have HK := Lib.hid hk
  clear hk
  have HI := Lib.hid (isMethod_c P A m W1)
  go_wp2_with fail
  clear x0 x1 x2
  refine HI.out.mono ?_
  rintro e W2 ⟨rfl, hb2⟩
  have HB2 : Hid (Bx W2 w.heap.size #[.slice A.pa P.np A.pc, .slice A.ca P.nc A.cc, .slice A.ma P.nm A.mc] 26 ∧ Below w.heap.size w W2) := Lib.hid ⟨HB1.out.1.below hb2, HB1.out.2.trans (hb2.mono HB1.out.2.size)⟩
  clear HB1 hb2 HI
  have x0 : W2.cell? ⟨w.heap.size, 0, none⟩ = some (.slice A.pa P.np A.pc) := HB2.out.1.cell 0
  have x1 : W2.cell? ⟨w.heap.size, 1, none⟩ = some (.slice A.ca P.nc A.cc) := HB2.out.1.cell 1
  have x2 : W2.cell? ⟨w.heap.size, 2, none⟩ = some (.slice A.ma P.nm A.mc) := HB2.out.1.cell 2
  cases hi : isIn m P.nm with
  | false =>
    have HN := Lib.hid hi
    clear hi
    go_wp2
    go_ret3
    exact shpP_bad (methR_2 HN.out) HB2.out.2
  | true =>
    obtain ⟨m0, m1⟩ := isIn_of hi
    have HN := Lib.hid hi
    clear hi
    obtain ⟨j, rfl⟩ : ∃ j : Nat, m = (j : Int) := ⟨m.toNat, by omega⟩
    have HF := Lib.hid (flowOf_c P A j W2 (HP.out.kept (Kept.of HB2.out.2)) HFt.out HCp.out HK.out (by omega))
    go_wp2_with fail
    refine HF.out.mono ?_
    rintro e W3 ⟨p, rfl, hb3, hok⟩
    have HR : Hid (ShpP P A j w (.returned (.tuple #[p, .int .i64 (if (flowR P j).2 = 0 then 0 else (flowR P j).1 : Nat), .int .i64 (flowR P j).2])) W3) := Lib.hid (by
      refine ⟨p, by rw [methR_3 HK.out HN.out]; rfl, HB2.out.2.trans (hb3.mono HB2.out.2.size), fun q => ?_⟩
      rw [methR_3 HK.out HN.out] at q
      exact ⟨HK.out, m0, m1, q, W2, HB2.out.2, hok q⟩)
    clear hb3 hok
    obtain ⟨q1, hq1⟩ : ∃ q : Nat, (if (flowR P j).2 = 0 then 0 else (flowR P j).1 : Nat) = q := ⟨_, rfl⟩
    obtain ⟨q2, hq2⟩ : ∃ q, (flowR P j).2 = q := ⟨_, rfl⟩
    rw [hq1] at HR ⊢
    rw [hq2] at HR ⊢
    clear hq1 hq2
    go_wp2
    go_ret3
    exact HR.out
def MetP (P : Pg) (m : Int) (w : World) (e : Ending) (w' : World) : Prop := e = .returned (.tuple #[.int .i64 ((methR P m).1 : Nat), .int .i64 (methR P m).2]) ∧ Below w.heap.size w w'
set_option maxRecDepth 100000 in
set_option maxHeartbeats 8000000 in
theorem Method_c (P : Pg) (A : Ad) (m : Int) (w : World) (h : PgAt w P A) (hf : Fits P A) (hc : Caps P A) : Calls Try.prog 24 #[.agg (P.cells A), .int .i64 m] w (MetP P m w) := by
  have HB0 : Hid (Bx (w.alloc (.cells #[.slice A.pa P.np A.pc, .slice A.ca P.nc A.cc, .slice A.ma P.nm A.mc] 26)) w.heap.size #[.slice A.pa P.np A.pc, .slice A.ca P.nc A.cc, .slice A.ma P.nm A.mc] 26 ∧ Below w.heap.size w (w.alloc (.cells #[.slice A.pa P.np A.pc, .slice A.ca P.nc A.cc, .slice A.ma P.nm A.mc] 26))) := Lib.hid ⟨Bx.new _ _ _, (Below.refl _ _).alloc (Nat.le_refl _) _⟩
  have HS := Lib.hid (shapes_c P A m (w.alloc (.cells #[.slice A.pa P.np A.pc, .slice A.ca P.nc A.cc, .slice A.ma P.nm A.mc] 26)) (h.kept (Kept.of HB0.out.2)) hf hc)
  clear h hf hc
  show Calls Try.prog 24 #[.agg #[.slice A.pa P.np A.pc, .slice A.ca P.nc A.cc, .slice A.ma P.nm A.mc], .int .i64 m] w _
  go_enter Try.func24, Try.ntmps24
  go_upto_region 1 with fail
  obtain ⟨W0, hW0⟩ : ∃ q, q = w.alloc (.cells #[.slice A.pa P.np A.pc, .slice A.ca P.nc A.cc, .slice A.ma P.nm A.mc] 26) := ⟨_, rfl⟩
  rw [← hW0] at HB0 HS ⊢
  clear hW0
  have x0 : W0.cell? ⟨w.heap.size, 0, none⟩ = some (.slice A.pa P.np A.pc) := HB0.out.1.cell 0
  have x1 : W0.cell? ⟨w.heap.size, 1, none⟩ = some (.slice A.ca P.nc A.cc) := HB0.out.1.cell 1
  have x2 : W0.cell? ⟨w.heap.size, 2, none⟩ = some (.slice A.ma P.nm A.mc) := HB0.out.1.cell 2
  go_wp2_with fail
  clear x0 x1 x2
  refine HS.out.mono ?_
  rintro e W1 ⟨p, rfl, hb1, -⟩
  have HR : Hid (MetP P m w (.returned (.tuple #[.int .i64 ((methR P m).1 : Nat), .int .i64 (methR P m).2])) W1) := Lib.hid ⟨rfl, HB0.out.2.trans (hb1.mono HB0.out.2.size)⟩
  clear hb1 HB0 HS
  generalize (methR P m).1 = q1 at HR ⊢
  generalize (methR P m).2 = q2 at HR ⊢
  go_wp2
  go_ret2
  exact HR.out
end Go.Proofs.Ytpiafgmncfibmaa.Vf
