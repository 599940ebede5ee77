import Derived.Laws.BitsLemmas
import Derived.IntWalk
import Derived.Laws.BitsAllLaws
import Derived.Deep.DrawnRows
import Derived.Test.YtgdlcnngplfjnaaDoorXa
import Derived.Test.YtgdlcnngplfjnaaDoorRows
import Derived.WalkKit
import Derived.ProofKit
import Derived.OpenShut
import Derived.Deep.QuietTactic
import Derived.BigQuiet
import Derived.Outline
import Derived.WalkSmall
import Derived.WalkLawsBesides
import Derived.WalkSpells
import Derived.BigGuardPart
import Derived.RegionTactic
import Derived.Deep.RegionHeld3
import Derived.Lib.Hide
import Derived.Deep.MidRow
import Derived.Below
import Derived.Deep.RegionWith
import Derived.Deep.OwnRows
import Derived.Deep.AppendLies
import Derived.Deep.RegionLaw
import Derived.Deep.CutBlock
import Derived.Deep.DeepCutAuto
namespace Go.Proofs.YtgdlcnngplfjnaaDoor.Vf
open Go.ChangeShapes Go.WideShapes Go.ChangeAt Go.RowKit
set_option linter.unusedVariables false
theorem wrap16_bd (n : Int) : -32768 ≤ IntKind.i16.wrap n ∧ IntKind.i16.wrap n ≤ 32767 := by rw [wrap16]; omega
theorem wrap8_bd (n : Int) : -32768 ≤ IntKind.i8.wrap n ∧ IntKind.i8.wrap n ≤ 32767 := by rw [wrap8]; omega
set_option maxRecDepth 100000 in
set_option maxHeartbeats 4000000 in
theorem rread_c (a : Option Addr) (n c : Nat) (D : Nat → Nat) (k : Nat) (w : World) (hI : CodeIn w a n c D) (hk : k < n) : Calls Tryd.prog 10 #[.slice a n c, .int .i64 k] w fun e w' => e = .returned (.tuple #[.agg (rdC n D k), .int .i64 (rdE n D k)]) ∧ Below w.heap.size w w' := by
  have hn := hI.big
  have hcap := hI.cap
  obtain ⟨b, o, rfl, hb, hc⟩ := hI.row.resolve_left (by omega)
  have q0 := hc k hk
  have hd := hI.byt k hk
  have HD := Lib.hid hI.byt
  have HC := Lib.hid hc
  have HE : Hid (rdE n D k = if 41 ≤ D k then 5 else if n < k + szK (kindO (D k)) then 6 else 0) := Lib.hid rfl
  have HV : Hid (∀ e, rdE n D k = e → e ≠ 0 → rdC n D k = ret4 0 0 0 0) := Lib.hid fun e he h => if_neg (by rw [he]; exact h)
  have HV0 : Hid (rdE n D k = 0 → rdC n D k = ret4 (D k : Nat) (opA D k) (opB D k) (szK (kindO (D k)) : Nat)) := Lib.hid fun h => if_pos h
  have HA : Hid (opA D k = if kindO (D k) = 0 then 0 else if kindO (D k) = 2 then IntKind.i8.wrap (D (k + 1) : Nat) else if kindO (D k) = 3 then IntKind.i16.wrap (D (k + 1) + 256 * D (k + 2) : Nat) else ((D (k + 1) : Nat) : Int)) := Lib.hid rfl
  have HB : Hid (opB D k = if kindO (D k) = 4 then ((D (k + 2) : Nat) : Int) else 0) := Lib.hid rfl
  obtain ⟨x, hx⟩ : ∃ x, D k = x := ⟨_, rfl⟩
  have HX := Lib.hid hx
  replace q0 : w.cell? ⟨b, o + k, none⟩ = some (.int .u8 (x : Nat)) := by rw [q0]; simp only [hx]
  rw [hx] at hd HE HV0 HA HB
  generalize rdE n D k = RE at HE HV HV0 ⊢
  generalize rdC n D k = RC at HV HV0 ⊢
  generalize opA D k = OA at HA HV0
  generalize opB D k = OB at HB HV0
  clear hx hc hI
  have hne : b ≠ w.heap.size := by omega
  have hne2 : b ≠ w.heap.size + 1 := by omega
  have d0 : decide ((n : Int) < (k : Int)) = false := decide_eq_false (by omega)
  have d2 : ((k : Int) == (n : Int)) = false := by simpa using (show ¬ (k : Int) = n by omega)
  have d2' : (k == n) = false := by simpa using (show ¬ k = n by omega)
  have d0' : decide (n < k) = false := decide_eq_false (by omega)
  by_cases hcode : 41 ≤ x
  · obtain rfl : RE = 5 := HE.out.trans (if_pos hcode)
    obtain rfl := HV.out 5 rfl (by decide)
    have d40 : decide (40 < (x : Int)) = true := decide_eq_true (by omega)
    have d40' : decide (40 < x) = true := decide_eq_true (by omega)
    go_enter Tryd.func10, Tryd.ntmps10
    go_wp2
    exact bodyPost_ret (v := .tuple #[.agg (ret4 0 0 0 0), .int .i64 5]) (by simp [results, Tryd.results10, go_sem, ret4]) rfl ⟨rfl, (Below.refl _ _).alloc (Nat.le_refl _) _⟩
  have d40 : decide (40 < (x : Int)) = false := decide_eq_false (by omega)
  have d40' : decide (40 < x) = false := decide_eq_false (by omega)
  have HSz : Hid (∀ V, Calls Tryd.prog 30 #[.int .i64 x] V fun e w' => e = .returned (.int .i64 (szK (kindO x) : Nat)) ∧ w' = V) := Lib.hid fun V => size_c x (by omega) V
  have HOp : Hid (∀ V, Calls Tryd.prog 31 #[.int .i64 x] V fun e w' => e = .returned (.string ⟨opS (kindO x)⟩) ∧ w' = V) := Lib.hid fun V => operands_c x (by omega) V
  have hkd := kindO_cases x
  generalize kindO (x : Int) = kd at HE HV0 HA HB HSz HOp hkd
  rcases hkd with rfl | rfl | rfl | rfl | rfl
  · replace HSz : Hid (∀ V, Calls Tryd.prog 30 #[.int .i64 x] V fun e w' => e = .returned (.int .i64 1) ∧ w' = V) := Lib.hid HSz.out
    replace HOp : Hid (∀ V, Calls Tryd.prog 31 #[.int .i64 x] V fun e w' => e = .returned (.string ⟨#[]⟩) ∧ w' = V) := Lib.hid HOp.out
    by_cases hsh : n < k + 1
    · obtain rfl : RE = 6 := HE.out.trans ((if_neg hcode).trans (if_pos hsh))
      obtain rfl := HV.out 6 rfl (by decide)
      have d1 : decide ((n : Int) < (k : Int) + 1) = true := decide_eq_true (by omega)
      go_enter Tryd.func10, Tryd.ntmps10
      go_wp2_with (go_at_call 30; refine (HSz.out _).mono ?_; rintro e w1 ⟨rfl, rfl⟩)
      all_goals exact bodyPost_ret (v := .tuple #[.agg (ret4 0 0 0 0), .int .i64 6]) (by simp [results, Tryd.results10, go_sem, ret4]) rfl ⟨rfl, ((Below.refl _ _).alloc (Nat.le_refl _) _).alloc (by simp) _⟩
    · obtain rfl : RE = 0 := HE.out.trans ((if_neg hcode).trans (if_neg hsh))
      have d1 : decide ((n : Int) < (k : Int) + 1) = false := decide_eq_false (by omega)
      go_enter Tryd.func10, Tryd.ntmps10
      go_wp2_with (first | (go_at_call 30; refine (HSz.out _).mono ?_; rintro e w1 ⟨rfl, rfl⟩) | (go_at_call 31; refine (HOp.out _).mono ?_; rintro e w1 ⟨rfl, rfl⟩))
      have hRC : RC = ret4 (x : Nat) OA OB 1 := by first | exact HV0.out rfl | exact HV0.out trivial
      have hA : OA = 0 := HA.out
      have hB : OB = 0 := HB.out
      rw [hA, hB] at hRC
      obtain rfl := hRC
      exact bodyPost_ret (v := .tuple #[.agg (ret4 x 0 0 1), .int .i64 0]) (by simp [results, Tryd.results10, go_sem, ret4]) rfl ⟨rfl, ((Below.refl _ _).alloc (Nat.le_refl _) _).alloc (by simp) _⟩
  · replace HSz : Hid (∀ V, Calls Tryd.prog 30 #[.int .i64 x] V fun e w' => e = .returned (.int .i64 2) ∧ w' = V) := Lib.hid HSz.out
    replace HOp : Hid (∀ V, Calls Tryd.prog 31 #[.int .i64 x] V fun e w' => e = .returned (.string ⟨#[117]⟩) ∧ w' = V) := Lib.hid HOp.out
    by_cases hsh : n < k + 2
    · obtain rfl : RE = 6 := HE.out.trans ((if_neg hcode).trans (if_pos hsh))
      obtain rfl := HV.out 6 rfl (by decide)
      have d1 : decide ((n : Int) < (k : Int) + 2) = true := decide_eq_true (by omega)
      go_enter Tryd.func10, Tryd.ntmps10
      go_wp2_with (go_at_call 30; refine (HSz.out _).mono ?_; rintro e w1 ⟨rfl, rfl⟩)
      all_goals exact bodyPost_ret (v := .tuple #[.agg (ret4 0 0 0 0), .int .i64 6]) (by simp [results, Tryd.results10, go_sem, ret4]) rfl ⟨rfl, ((Below.refl _ _).alloc (Nat.le_refl _) _).alloc (by simp) _⟩
    · obtain rfl : RE = 0 := HE.out.trans ((if_neg hcode).trans (if_neg hsh))
      have d1 : decide ((n : Int) < (k : Int) + 2) = false := decide_eq_false (by omega)
      have q1 := HC.out (k + 1) (by omega)
      have h1 := HD.out (k + 1) (by omega)
      obtain ⟨x1, hx1⟩ : ∃ q, D (k + 1) = q := ⟨_, rfl⟩
      have q1' : w.cell? ⟨b, o + (k + 1), none⟩ = some (.int .u8 (x1 : Nat)) := by rw [q1]; simp only [hx1]
      rw [hx1] at h1
      try rw [hx1] at HA
      try rw [hx1] at HB
      clear q1 hx1
      have g1 : (k : Int) + 1 < n := by omega
      have n1 : k + 1 < n := by omega
      go_enter Tryd.func10, Tryd.ntmps10
      go_wp2_with (first | (go_at_call 30; refine (HSz.out _).mono ?_; rintro e w1 ⟨rfl, rfl⟩) | (go_at_call 31; refine (HOp.out _).mono ?_; rintro e w1 ⟨rfl, rfl⟩))
      have hRC : RC = ret4 (x : Nat) OA OB 2 := by first | exact HV0.out rfl | exact HV0.out trivial
      have hA : OA = (x1 : Nat) := HA.out
      have hB : OB = 0 := HB.out
      rw [hA, hB] at hRC
      obtain rfl := hRC
      exact bodyPost_ret (v := .tuple #[.agg (ret4 x (x1 : Nat) 0 2), .int .i64 0]) (by simp [results, Tryd.results10, go_sem, ret4]) rfl ⟨rfl, ((Below.refl _ _).alloc (Nat.le_refl _) _).alloc (by simp) _⟩
  · replace HSz : Hid (∀ V, Calls Tryd.prog 30 #[.int .i64 x] V fun e w' => e = .returned (.int .i64 2) ∧ w' = V) := Lib.hid HSz.out
    replace HOp : Hid (∀ V, Calls Tryd.prog 31 #[.int .i64 x] V fun e w' => e = .returned (.string ⟨#[115]⟩) ∧ w' = V) := Lib.hid HOp.out
    by_cases hsh : n < k + 2
    · obtain rfl : RE = 6 := HE.out.trans ((if_neg hcode).trans (if_pos hsh))
      obtain rfl := HV.out 6 rfl (by decide)
      have d1 : decide ((n : Int) < (k : Int) + 2) = true := decide_eq_true (by omega)
      go_enter Tryd.func10, Tryd.ntmps10
      go_wp2_with (go_at_call 30; refine (HSz.out _).mono ?_; rintro e w1 ⟨rfl, rfl⟩)
      all_goals exact bodyPost_ret (v := .tuple #[.agg (ret4 0 0 0 0), .int .i64 6]) (by simp [results, Tryd.results10, go_sem, ret4]) rfl ⟨rfl, ((Below.refl _ _).alloc (Nat.le_refl _) _).alloc (by simp) _⟩
    · obtain rfl : RE = 0 := HE.out.trans ((if_neg hcode).trans (if_neg hsh))
      have d1 : decide ((n : Int) < (k : Int) + 2) = false := decide_eq_false (by omega)
      have q1 := HC.out (k + 1) (by omega)
      have h1 := HD.out (k + 1) (by omega)
      obtain ⟨x1, hx1⟩ : ∃ q, D (k + 1) = q := ⟨_, rfl⟩
      have q1' : w.cell? ⟨b, o + (k + 1), none⟩ = some (.int .u8 (x1 : Nat)) := by rw [q1]; simp only [hx1]
      rw [hx1] at h1
      try rw [hx1] at HA
      try rw [hx1] at HB
      clear q1 hx1
      have g1 : (k : Int) + 1 < n := by omega
      have n1 : k + 1 < n := by omega
      go_enter Tryd.func10, Tryd.ntmps10
      go_wp2_with (first | (go_at_call 30; refine (HSz.out _).mono ?_; rintro e w1 ⟨rfl, rfl⟩) | (go_at_call 31; refine (HOp.out _).mono ?_; rintro e w1 ⟨rfl, rfl⟩))
      rw [w64x (by rw [wrap8]; omega) (by rw [wrap8]; omega)]
      have hRC : RC = ret4 (x : Nat) OA OB 2 := by first | exact HV0.out rfl | exact HV0.out trivial
      have hA : OA = (IntKind.i8.wrap (x1 : Nat)) := HA.out
      have hB : OB = 0 := HB.out
      rw [hA, hB] at hRC
      obtain rfl := hRC
      exact bodyPost_ret (v := .tuple #[.agg (ret4 x (IntKind.i8.wrap (x1 : Nat)) 0 2), .int .i64 0]) (by simp [results, Tryd.results10, go_sem, ret4]) rfl ⟨rfl, ((Below.refl _ _).alloc (Nat.le_refl _) _).alloc (by simp) _⟩
  · replace HSz : Hid (∀ V, Calls Tryd.prog 30 #[.int .i64 x] V fun e w' => e = .returned (.int .i64 3) ∧ w' = V) := Lib.hid HSz.out
    replace HOp : Hid (∀ V, Calls Tryd.prog 31 #[.int .i64 x] V fun e w' => e = .returned (.string ⟨#[111]⟩) ∧ w' = V) := Lib.hid HOp.out
    by_cases hsh : n < k + 3
    · obtain rfl : RE = 6 := HE.out.trans ((if_neg hcode).trans (if_pos hsh))
      obtain rfl := HV.out 6 rfl (by decide)
      have d1 : decide ((n : Int) < (k : Int) + 3) = true := decide_eq_true (by omega)
      go_enter Tryd.func10, Tryd.ntmps10
      go_wp2_with (go_at_call 30; refine (HSz.out _).mono ?_; rintro e w1 ⟨rfl, rfl⟩)
      all_goals exact bodyPost_ret (v := .tuple #[.agg (ret4 0 0 0 0), .int .i64 6]) (by simp [results, Tryd.results10, go_sem, ret4]) rfl ⟨rfl, ((Below.refl _ _).alloc (Nat.le_refl _) _).alloc (by simp) _⟩
    · obtain rfl : RE = 0 := HE.out.trans ((if_neg hcode).trans (if_neg hsh))
      have d1 : decide ((n : Int) < (k : Int) + 3) = false := decide_eq_false (by omega)
      have q1 := HC.out (k + 1) (by omega)
      have h1 := HD.out (k + 1) (by omega)
      obtain ⟨x1, hx1⟩ : ∃ q, D (k + 1) = q := ⟨_, rfl⟩
      have q1' : w.cell? ⟨b, o + (k + 1), none⟩ = some (.int .u8 (x1 : Nat)) := by rw [q1]; simp only [hx1]
      rw [hx1] at h1
      try rw [hx1] at HA
      try rw [hx1] at HB
      clear q1 hx1
      have q2 := HC.out (k + 2) (by omega)
      have h2 := HD.out (k + 2) (by omega)
      obtain ⟨x2, hx2⟩ : ∃ q, D (k + 2) = q := ⟨_, rfl⟩
      have q2' : w.cell? ⟨b, o + (k + 2), none⟩ = some (.int .u8 (x2 : Nat)) := by rw [q2]; simp only [hx2]
      rw [hx2] at h2
      try rw [hx2] at HA
      try rw [hx2] at HB
      clear q2 hx2
      have g1 : (k : Int) + 1 < n := by omega
      have n1 : k + 1 < n := by omega
      have g2 : (k : Int) + 2 < n := by omega
      have n2 : k + 2 < n := by omega
      go_enter Tryd.func10, Tryd.ntmps10
      go_wp2_with (first | (go_at_call 30; refine (HSz.out _).mono ?_; rintro e w1 ⟨rfl, rfl⟩) | (go_at_call 31; refine (HOp.out _).mono ?_; rintro e w1 ⟨rfl, rfl⟩))
      obtain ⟨W, hW⟩ : ∃ q, q = (w.alloc (.cells #[.int .i64 0, .int .i64 0, .int .i64 0, .int .i64 0] 29)).alloc (.cells #[.int .i64 x, .int .i64 0, .int .i64 0, .int .i64 3] 29) := ⟨_, rfl⟩
      have HW : Hid (Bx W w.heap.size #[.int .i64 0, .int .i64 0, .int .i64 0, .int .i64 0] 29 ∧ Bx W (w.heap.size + 1) #[.int .i64 x, .int .i64 0, .int .i64 0, .int .i64 3] 29 ∧ Below w.heap.size w W) := Lib.hid (by
        rw [hW]
        refine ⟨(Bx.new w _ 29).alloc _, ?_, ((Below.refl _ _).alloc (Nat.le_refl _) _).alloc (by simp) _⟩
        have h9 := Bx.new (w.alloc (.cells #[.int .i64 0, .int .i64 0, .int .i64 0, .int .i64 0] 29)) #[.int .i64 x, .int .i64 0, .int .i64 0, .int .i64 3] 29
        rw [show (w.alloc (.cells #[.int .i64 0, .int .i64 0, .int .i64 0, .int .i64 0] 29)).heap.size = w.heap.size + 1 by simp] at h9
        exact h9)
      rw [← hW]
      clear hW
      obtain ⟨k1, hk1⟩ : ∃ q, k + 1 = q := ⟨_, rfl⟩
      obtain ⟨k2, hk2⟩ : ∃ q, k + 2 = q := ⟨_, rfl⟩
      rw [hk1] at q1' n1
      rw [hk2] at q2' n2
      have e1 : IntKind.i64.wrap ((k : Int) + 1) = (k1 : Int) := by rw [IntKind.wrap_i64]; omega
      have e2 : IntKind.i64.wrap ((k : Int) + 2) = (k2 : Int) := by rw [IntKind.wrap_i64]; omega
      have n1' : (k1 : Int) < n := by omega
      have n2' : (k2 : Int) < n := by omega
      clear hk1 hk2 g1 g2
      have HWd : Hid (W.drew.cell? ⟨b, o + k1, none⟩ = some (.int .u8 (x1 : Nat)) ∧ W.drew.cell? ⟨b, o + k2, none⟩ = some (.int .u8 (x2 : Nat))) := Lib.hid ⟨(HW.out.2.2.drew.cell (p := ⟨b, o + k1, none⟩) hb).trans q1', (HW.out.2.2.drew.cell (p := ⟨b, o + k2, none⟩) hb).trans q2'⟩
      refine region_e 17 (fun w' => w'.cell? ⟨b, o + k1, none⟩ = some (.int .u8 (x1 : Nat)) ∧ w'.cell? ⟨b, o + k2, none⟩ = some (.int .u8 (x2 : Nat))) (by kernel_rfl) HWd.out (fun hHeld => ?_)
      have z0 : W.drew.cell? ⟨w.heap.size + 1, 1, none⟩ = some (.int .i64 0) := HW.out.2.1.cell 1
      have z1 : W.drew.frozen? ⟨w.heap.size + 1, 1, none⟩ = false := HW.out.2.1.frz 1
      refine AnyE.take2 (i := 0) [] (oi := { dst := some 65, op := Go.Op.move (Go.Operand.tmp 0), type := 22, pos := "ref.go:81", after := #[], guard := none }) (v := ?_) rfl (by kernel_rfl) (by kernel_rfl) (by kernel_rfl) (by kernel_rfl) (fun _ _ _ h => h) (Or.inl ⟨by rfl, ?_⟩) (by assumption) ?_
      rotate_left
      · (intro w0 hSw; (try dsimp only at hSw); go_split_ands; go_simp; with_reducible rfl)
      try simp only [Act.put, List.setIfInBounds_toArray, List.set_cons_zero, List.set_cons_succ]
      refine AnyE.take2 (i := 1) [] (oi := { dst := some 66, op := Go.Op.move (Go.Operand.tmp 1), type := 3, pos := "ref.go:81", after := #[], guard := none }) (v := ?_) rfl (by kernel_rfl) (by kernel_rfl) (by kernel_rfl) (by kernel_rfl) (fun _ _ _ h => h) (Or.inl ⟨by rfl, ?_⟩) (by assumption) ?_
      rotate_left
      · (intro w0 hSw; (try dsimp only at hSw); go_split_ands; go_simp; with_reducible rfl)
      try simp only [Act.put, List.setIfInBounds_toArray, List.set_cons_zero, List.set_cons_succ]
      refine AnyE.take2 (i := 2) [] (oi := { dst := some 67, op := Go.Op.binOp Go.BinOp.add 3 (Go.Operand.tmp 66) (Go.Operand.const (Go.Value.int Go.IntKind.i64 1)) 3, type := 3, pos := "ref.go:81", after := #[{ on := 1, ground := Go.Ground.data }], guard := none }) (v := ?_) rfl (by kernel_rfl) (by kernel_rfl) (by kernel_rfl) (by kernel_rfl) (fun _ _ _ h => h) (Or.inl ⟨by rfl, ?_⟩) (by assumption) ?_
      rotate_left
      · (intro w0 hSw; (try dsimp only at hSw); go_split_ands; go_simp; with_reducible rfl)
      try simp only [Act.put, List.setIfInBounds_toArray, List.set_cons_zero, List.set_cons_succ]
      refine AnyE.take2 (i := 3) [] (oi := { dst := some 68, op := Go.Op.indexAddr 22 (Go.Operand.tmp 65) (Go.Operand.tmp 67), type := 0, pos := "ref.go:81", after := #[{ on := 0, ground := Go.Ground.data }, { on := 2, ground := Go.Ground.data }], guard := none }) (v := ?_) rfl (by kernel_rfl) (by kernel_rfl) (by kernel_rfl) (by kernel_rfl) (fun _ _ _ h => h) (Or.inl ⟨by rfl, ?_⟩) (by assumption) ?_
      rotate_left
      · (intro w0 hSw; (try dsimp only at hSw); go_split_ands; go_simp; with_reducible rfl)
      try simp only [Act.put, List.setIfInBounds_toArray, List.set_cons_zero, List.set_cons_succ]
      refine AnyE.take2 (i := 4) [] (oi := { dst := some 69, op := Go.Op.load 5 (Go.Operand.tmp 68), type := 5, pos := "ref.go:81", after := #[{ on := 3, ground := Go.Ground.data }], guard := none }) (v := ?_) rfl (by kernel_rfl) (by kernel_rfl) (by kernel_rfl) (by kernel_rfl) (fun _ _ _ h => h) (Or.inl ⟨by rfl, ?_⟩) (by assumption) ?_
      rotate_left
      · (intro w0 hSw; (try dsimp only at hSw); go_split_ands; go_simp; with_reducible rfl)
      try simp only [Act.put, List.setIfInBounds_toArray, List.set_cons_zero, List.set_cons_succ]
      refine AnyE.take2 (i := 5) [] (oi := { dst := some 70, op := Go.Op.convert 5 67 (Go.Operand.tmp 69), type := 67, pos := "ref.go:81", after := #[{ on := 4, ground := Go.Ground.data }], guard := none }) (v := ?_) rfl (by kernel_rfl) (by kernel_rfl) (by kernel_rfl) (by kernel_rfl) (fun _ _ _ h => h) (Or.inl ⟨by rfl, ?_⟩) (by assumption) ?_
      rotate_left
      · (intro w0 hSw; (try dsimp only at hSw); go_split_ands; go_simp; with_reducible rfl)
      try simp only [Act.put, List.setIfInBounds_toArray, List.set_cons_zero, List.set_cons_succ]
      refine AnyE.take2 (i := 6) [] (oi := { dst := some 71, op := Go.Op.move (Go.Operand.tmp 0), type := 22, pos := "ref.go:81", after := #[], guard := none }) (v := ?_) rfl (by kernel_rfl) (by kernel_rfl) (by kernel_rfl) (by kernel_rfl) (fun _ _ _ h => h) (Or.inl ⟨by rfl, ?_⟩) (by assumption) ?_
      rotate_left
      · (intro w0 hSw; (try dsimp only at hSw); go_split_ands; go_simp; with_reducible rfl)
      try simp only [Act.put, List.setIfInBounds_toArray, List.set_cons_zero, List.set_cons_succ]
      refine AnyE.take2 (i := 7) [] (oi := { dst := some 72, op := Go.Op.move (Go.Operand.tmp 1), type := 3, pos := "ref.go:81", after := #[], guard := none }) (v := ?_) rfl (by kernel_rfl) (by kernel_rfl) (by kernel_rfl) (by kernel_rfl) (fun _ _ _ h => h) (Or.inl ⟨by rfl, ?_⟩) (by assumption) ?_
      rotate_left
      · (intro w0 hSw; (try dsimp only at hSw); go_split_ands; go_simp; with_reducible rfl)
      try simp only [Act.put, List.setIfInBounds_toArray, List.set_cons_zero, List.set_cons_succ]
      refine AnyE.take2 (i := 8) [] (oi := { dst := some 73, op := Go.Op.binOp Go.BinOp.add 3 (Go.Operand.tmp 72) (Go.Operand.const (Go.Value.int Go.IntKind.i64 2)) 3, type := 3, pos := "ref.go:81", after := #[{ on := 7, ground := Go.Ground.data }], guard := none }) (v := ?_) rfl (by kernel_rfl) (by kernel_rfl) (by kernel_rfl) (by kernel_rfl) (fun _ _ _ h => h) (Or.inl ⟨by rfl, ?_⟩) (by assumption) ?_
      rotate_left
      · (intro w0 hSw; (try dsimp only at hSw); go_split_ands; go_simp; with_reducible rfl)
      try simp only [Act.put, List.setIfInBounds_toArray, List.set_cons_zero, List.set_cons_succ]
      refine AnyE.take2 (i := 9) [] (oi := { dst := some 74, op := Go.Op.indexAddr 22 (Go.Operand.tmp 71) (Go.Operand.tmp 73), type := 0, pos := "ref.go:81", after := #[{ on := 6, ground := Go.Ground.data }, { on := 8, ground := Go.Ground.data }], guard := none }) (v := ?_) rfl (by kernel_rfl) (by kernel_rfl) (by kernel_rfl) (by kernel_rfl) (fun _ _ _ h => h) (Or.inl ⟨by rfl, ?_⟩) (by assumption) ?_
      rotate_left
      · (intro w0 hSw; (try dsimp only at hSw); go_split_ands; go_simp; with_reducible rfl)
      try simp only [Act.put, List.setIfInBounds_toArray, List.set_cons_zero, List.set_cons_succ]
      refine AnyE.take2 (i := 10) [] (oi := { dst := some 75, op := Go.Op.load 5 (Go.Operand.tmp 74), type := 5, pos := "ref.go:81", after := #[{ on := 9, ground := Go.Ground.data }], guard := none }) (v := ?_) rfl (by kernel_rfl) (by kernel_rfl) (by kernel_rfl) (by kernel_rfl) (fun _ _ _ h => h) (Or.inl ⟨by rfl, ?_⟩) (by assumption) ?_
      rotate_left
      · (intro w0 hSw; (try dsimp only at hSw); go_split_ands; go_simp; with_reducible rfl)
      try simp only [Act.put, List.setIfInBounds_toArray, List.set_cons_zero, List.set_cons_succ]
      refine AnyE.take2 (i := 11) [] (oi := { dst := some 76, op := Go.Op.convert 5 67 (Go.Operand.tmp 75), type := 67, pos := "ref.go:81", after := #[{ on := 10, ground := Go.Ground.data }], guard := none }) (v := ?_) rfl (by kernel_rfl) (by kernel_rfl) (by kernel_rfl) (by kernel_rfl) (fun _ _ _ h => h) (Or.inl ⟨by rfl, ?_⟩) (by assumption) ?_
      rotate_left
      · (intro w0 hSw; (try dsimp only at hSw); go_split_ands; go_simp; with_reducible rfl)
      try simp only [Act.put, List.setIfInBounds_toArray, List.set_cons_zero, List.set_cons_succ]
      refine AnyE.take2 (i := 12) [] (oi := { dst := some 77, op := Go.Op.binOp Go.BinOp.shl 67 (Go.Operand.tmp 76) (Go.Operand.const (Go.Value.int Go.IntKind.u64 8)) 68, type := 67, pos := "ref.go:81", after := #[{ on := 11, ground := Go.Ground.data }], guard := none }) (v := ?_) rfl (by kernel_rfl) (by kernel_rfl) (by kernel_rfl) (by kernel_rfl) (fun _ _ _ h => h) (Or.inl ⟨by rfl, ?_⟩) (by assumption) ?_
      rotate_left
      · (intro w0 hSw; (try dsimp only at hSw); go_split_ands; go_simp; with_reducible rfl)
      try simp only [Act.put, List.setIfInBounds_toArray, List.set_cons_zero, List.set_cons_succ]
      refine AnyE.take2 (i := 13) [] (oi := { dst := some 78, op := Go.Op.binOp Go.BinOp.or 67 (Go.Operand.tmp 70) (Go.Operand.tmp 77) 67, type := 67, pos := "ref.go:81", after := #[{ on := 5, ground := Go.Ground.data }, { on := 12, ground := Go.Ground.data }], guard := none }) (v := ?_) rfl (by kernel_rfl) (by kernel_rfl) (by kernel_rfl) (by kernel_rfl) (fun _ _ _ h => h) (Or.inl ⟨by rfl, ?_⟩) (by assumption) ?_
      rotate_left
      · (intro w0 hSw; (try dsimp only at hSw); go_split_ands; go_simp; with_reducible rfl)
      try simp only [Act.put, List.setIfInBounds_toArray, List.set_cons_zero, List.set_cons_succ]
      refine AnyE.take2 (i := 14) [] (oi := { dst := some 79, op := Go.Op.convert 67 66 (Go.Operand.tmp 78), type := 66, pos := "ref.go:81", after := #[{ on := 13, ground := Go.Ground.data }], guard := none }) (v := ?_) rfl (by kernel_rfl) (by kernel_rfl) (by kernel_rfl) (by kernel_rfl) (fun _ _ _ h => h) (Or.inl ⟨by rfl, ?_⟩) (by assumption) ?_
      rotate_left
      · (intro w0 hSw; (try dsimp only at hSw); go_split_ands; go_simp; with_reducible rfl)
      try simp only [Act.put, List.setIfInBounds_toArray, List.set_cons_zero, List.set_cons_succ]
      refine AnyE.take2 (i := 15) [] (oi := { dst := some 80, op := Go.Op.convert 66 3 (Go.Operand.tmp 79), type := 3, pos := "ref.go:81", after := #[{ on := 14, ground := Go.Ground.data }], guard := none }) (v := ?_) rfl (by kernel_rfl) (by kernel_rfl) (by kernel_rfl) (by kernel_rfl) (fun _ _ _ h => h) (Or.inl ⟨by rfl, ?_⟩) (by assumption) ?_
      rotate_left
      · (intro w0 hSw; (try dsimp only at hSw); go_split_ands; go_simp; with_reducible rfl)
      try simp only [Act.put, List.setIfInBounds_toArray, List.set_cons_zero, List.set_cons_succ]
      refine AnyE.take2 (i := 16) [] (oi := { dst := some 81, op := Go.Op.fieldAddr 29 (Go.Operand.tmp 7) 1, type := 0, pos := "ref.go:81", after := #[{ on := 0, ground := Go.Ground.phase }, { on := 1, ground := Go.Ground.phase }, { on := 2, ground := Go.Ground.phase }, { on := 3, ground := Go.Ground.phase }, { on := 4, ground := Go.Ground.phase }, { on := 5, ground := Go.Ground.phase }, { on := 6, ground := Go.Ground.phase }, { on := 7, ground := Go.Ground.phase }, { on := 8, ground := Go.Ground.phase }, { on := 9, ground := Go.Ground.phase }, { on := 10, ground := Go.Ground.phase }, { on := 11, ground := Go.Ground.phase }, { on := 12, ground := Go.Ground.phase }, { on := 13, ground := Go.Ground.phase }, { on := 14, ground := Go.Ground.phase }, { on := 15, ground := Go.Ground.phase }], guard := none }) (v := ?_) rfl (by kernel_rfl) (by kernel_rfl) (by kernel_rfl) (by kernel_rfl) (fun _ _ _ h => h) (Or.inl ⟨by rfl, ?_⟩) (by assumption) ?_
      rotate_left
      · (intro w0 hSw; (try dsimp only at hSw); go_split_ands; go_simp; with_reducible rfl)
      try simp only [Act.put, List.setIfInBounds_toArray, List.set_cons_zero, List.set_cons_succ]
      refine AnyE.ready (rs := [17]) (by kernel_rfl) (by simp) ?_
      refine AllE.last (o := { dst := none, op := Go.Op.store 3 (Go.Operand.tmp 81) (Go.Operand.tmp 80), type := 0, pos := "ref.go:81", after := #[{ on := 16, ground := Go.Ground.data }, { on := 15, ground := Go.Ground.data }, { on := 0, ground := Go.Ground.phase }, { on := 1, ground := Go.Ground.phase }, { on := 2, ground := Go.Ground.phase }, { on := 3, ground := Go.Ground.phase }, { on := 4, ground := Go.Ground.phase }, { on := 5, ground := Go.Ground.phase }, { on := 6, ground := Go.Ground.phase }, { on := 7, ground := Go.Ground.phase }, { on := 8, ground := Go.Ground.phase }, { on := 9, ground := Go.Ground.phase }, { on := 10, ground := Go.Ground.phase }, { on := 11, ground := Go.Ground.phase }, { on := 12, ground := Go.Ground.phase }, { on := 13, ground := Go.Ground.phase }, { on := 14, ground := Go.Ground.phase }, { on := 15, ground := Go.Ground.phase }], guard := none }) rfl (by kernel_rfl) (fun KK hKK => ?_)
      go_simp
      have a1 : IntKind.u16.wrap (x1 : Int) = (x1 : Int) := by rw [IntKind.wrap_u16]; omega
      have a2 : IntKind.u16.wrap (x2 : Int) = (x2 : Int) := by rw [IntKind.wrap_u16]; omega
      have a3 : IntKind.u16.wrap ((x2 : Int) * 256) = (x2 : Int) * 256 := by rw [IntKind.wrap_u16]; omega
      have a4 : IntKind.i64.wrap (IntKind.i16.wrap ((x1 + 256 * x2 : Nat) : Int)) = IntKind.i16.wrap ((x1 + 256 * x2 : Nat) : Int) := by have := wrap16_bd ((x1 + 256 * x2 : Nat) : Int); rw [IntKind.wrap_i64]; omega
      rw [a1, a2, a3, or16 h1 h2, a4]
      clear z0 z1 a1 a2 a3 a4
      obtain ⟨AV, hAV⟩ : ∃ q, IntKind.i16.wrap ((x1 + 256 * x2 : Nat) : Int) = q := ⟨_, rfl⟩
      rw [hAV]
      have HW9 : Hid (Bx (W.setCell ⟨w.heap.size + 1, 1, none⟩ (.int .i64 AV)).drew w.heap.size #[.int .i64 0, .int .i64 0, .int .i64 0, .int .i64 0] 29 ∧ Bx (W.setCell ⟨w.heap.size + 1, 1, none⟩ (.int .i64 AV)).drew (w.heap.size + 1) #[.int .i64 x, .int .i64 AV, .int .i64 0, .int .i64 3] 29 ∧ Below w.heap.size w (W.setCell ⟨w.heap.size + 1, 1, none⟩ (.int .i64 AV)).drew) := Lib.hid ⟨(HW.out.1.far (by omega) 1 _).drew, (HW.out.2.1.set 1 _).drew, (HW.out.2.2.setCell (p := ⟨w.heap.size + 1, 1, none⟩) (by simp) _).drew⟩
      generalize (W.setCell ⟨w.heap.size + 1, 1, none⟩ (.int .i64 AV)).drew = W9 at HW9 ⊢
      refine hKK.out _ _ ?_
      clear hKK KK
      try simp only [Act.put, List.setIfInBounds_toArray, List.set_cons_zero, List.set_cons_succ]
      have c0 : W9.cell? ⟨w.heap.size + 1, 0, none⟩ = some (.int .i64 x) := HW9.out.2.1.cell 0
      have u0' : W9.cell? ⟨w.heap.size, 0, none⟩ = some (.int .i64 0) := HW9.out.1.cell 0
      have t0 : W9.frozen? ⟨w.heap.size, 0, none⟩ = false := HW9.out.1.frz 0
      have c1 : W9.cell? ⟨w.heap.size + 1, 1, none⟩ = some (.int .i64 AV) := HW9.out.2.1.cell 1
      have u1' : W9.cell? ⟨w.heap.size, 1, none⟩ = some (.int .i64 0) := HW9.out.1.cell 1
      have t1 : W9.frozen? ⟨w.heap.size, 1, none⟩ = false := HW9.out.1.frz 1
      have c2 : W9.cell? ⟨w.heap.size + 1, 2, none⟩ = some (.int .i64 0) := HW9.out.2.1.cell 2
      have u2' : W9.cell? ⟨w.heap.size, 2, none⟩ = some (.int .i64 0) := HW9.out.1.cell 2
      have t2 : W9.frozen? ⟨w.heap.size, 2, none⟩ = false := HW9.out.1.frz 2
      have c3 : W9.cell? ⟨w.heap.size + 1, 3, none⟩ = some (.int .i64 3) := HW9.out.2.1.cell 3
      have u3' : W9.cell? ⟨w.heap.size, 3, none⟩ = some (.int .i64 0) := HW9.out.1.cell 3
      have t3 : W9.frozen? ⟨w.heap.size, 3, none⟩ = false := HW9.out.1.frz 3
      go_wp2
      clear c0 c1 c2 c3 u0' u1' u2' u3' t0 t1 t2 t3
      have HR0 : Hid (Bx W9 w.heap.size #[.int .i64 0, .int .i64 0, .int .i64 0, .int .i64 0] 29 ∧ Below w.heap.size w W9) := Lib.hid ⟨HW9.out.1, HW9.out.2.2⟩
      have HR1 : Hid (Bx (W9.setCell ⟨w.heap.size, 0, none⟩ (.int .i64 x)) w.heap.size #[.int .i64 x, .int .i64 0, .int .i64 0, .int .i64 0] 29 ∧ Below w.heap.size w (W9.setCell ⟨w.heap.size, 0, none⟩ (.int .i64 x))) := Lib.hid ⟨HR0.out.1.set 0 (.int .i64 x), HR0.out.2.setCell (p := ⟨w.heap.size, 0, none⟩) (Nat.le_refl _) _⟩
      generalize W9.setCell ⟨w.heap.size, 0, none⟩ (.int .i64 x) = v0 at HR1 ⊢
      have HR2 : Hid (Bx (v0.setCell ⟨w.heap.size, 1, none⟩ (.int .i64 AV)) w.heap.size #[.int .i64 x, .int .i64 AV, .int .i64 0, .int .i64 0] 29 ∧ Below w.heap.size w (v0.setCell ⟨w.heap.size, 1, none⟩ (.int .i64 AV))) := Lib.hid ⟨HR1.out.1.set 1 (.int .i64 AV), HR1.out.2.setCell (p := ⟨w.heap.size, 1, none⟩) (Nat.le_refl _) _⟩
      generalize v0.setCell ⟨w.heap.size, 1, none⟩ (.int .i64 AV) = v1 at HR2 ⊢
      have HR3 : Hid (Bx (v1.setCell ⟨w.heap.size, 2, none⟩ (.int .i64 0)) w.heap.size #[.int .i64 x, .int .i64 AV, .int .i64 0, .int .i64 0] 29 ∧ Below w.heap.size w (v1.setCell ⟨w.heap.size, 2, none⟩ (.int .i64 0))) := Lib.hid ⟨HR2.out.1.set 2 (.int .i64 0), HR2.out.2.setCell (p := ⟨w.heap.size, 2, none⟩) (Nat.le_refl _) _⟩
      generalize v1.setCell ⟨w.heap.size, 2, none⟩ (.int .i64 0) = v2 at HR3 ⊢
      have HR4 : Hid (Bx (v2.setCell ⟨w.heap.size, 3, none⟩ (.int .i64 3)) w.heap.size #[.int .i64 x, .int .i64 AV, .int .i64 0, .int .i64 3] 29 ∧ Below w.heap.size w (v2.setCell ⟨w.heap.size, 3, none⟩ (.int .i64 3))) := Lib.hid ⟨HR3.out.1.set 3 (.int .i64 3), HR3.out.2.setCell (p := ⟨w.heap.size, 3, none⟩) (Nat.le_refl _) _⟩
      generalize v2.setCell ⟨w.heap.size, 3, none⟩ (.int .i64 3) = v3 at HR4 ⊢
      have y0 : v3.cell? ⟨w.heap.size, 0, none⟩ = some (.int .i64 x) := HR4.out.1.cell 0
      have y1 : v3.cell? ⟨w.heap.size, 1, none⟩ = some (.int .i64 AV) := HR4.out.1.cell 1
      have y2 : v3.cell? ⟨w.heap.size, 2, none⟩ = some (.int .i64 0) := HR4.out.1.cell 2
      have y3 : v3.cell? ⟨w.heap.size, 3, none⟩ = some (.int .i64 3) := HR4.out.1.cell 3
      have hRC : RC = ret4 (x : Nat) OA OB 3 := by first | exact HV0.out rfl | exact HV0.out trivial
      have hA : OA = AV := HA.out.trans hAV
      have hB : OB = 0 := HB.out
      rw [hA, hB] at hRC
      obtain rfl := hRC
      exact bodyPost_ret (v := .tuple #[.agg (ret4 x AV 0 3), .int .i64 0]) (by simp [results, Tryd.results10, go_sem, y0, y1, y2, y3, ret4]) rfl ⟨rfl, HR4.out.2⟩
  · replace HSz : Hid (∀ V, Calls Tryd.prog 30 #[.int .i64 x] V fun e w' => e = .returned (.int .i64 3) ∧ w' = V) := Lib.hid HSz.out
    replace HOp : Hid (∀ V, Calls Tryd.prog 31 #[.int .i64 x] V fun e w' => e = .returned (.string ⟨#[117, 117]⟩) ∧ w' = V) := Lib.hid HOp.out
    by_cases hsh : n < k + 3
    · obtain rfl : RE = 6 := HE.out.trans ((if_neg hcode).trans (if_pos hsh))
      obtain rfl := HV.out 6 rfl (by decide)
      have d1 : decide ((n : Int) < (k : Int) + 3) = true := decide_eq_true (by omega)
      go_enter Tryd.func10, Tryd.ntmps10
      go_wp2_with (go_at_call 30; refine (HSz.out _).mono ?_; rintro e w1 ⟨rfl, rfl⟩)
      all_goals exact bodyPost_ret (v := .tuple #[.agg (ret4 0 0 0 0), .int .i64 6]) (by simp [results, Tryd.results10, go_sem, ret4]) rfl ⟨rfl, ((Below.refl _ _).alloc (Nat.le_refl _) _).alloc (by simp) _⟩
    · obtain rfl : RE = 0 := HE.out.trans ((if_neg hcode).trans (if_neg hsh))
      have d1 : decide ((n : Int) < (k : Int) + 3) = false := decide_eq_false (by omega)
      have q1 := HC.out (k + 1) (by omega)
      have h1 := HD.out (k + 1) (by omega)
      obtain ⟨x1, hx1⟩ : ∃ q, D (k + 1) = q := ⟨_, rfl⟩
      have q1' : w.cell? ⟨b, o + (k + 1), none⟩ = some (.int .u8 (x1 : Nat)) := by rw [q1]; simp only [hx1]
      rw [hx1] at h1
      try rw [hx1] at HA
      try rw [hx1] at HB
      clear q1 hx1
      have q2 := HC.out (k + 2) (by omega)
      have h2 := HD.out (k + 2) (by omega)
      obtain ⟨x2, hx2⟩ : ∃ q, D (k + 2) = q := ⟨_, rfl⟩
      have q2' : w.cell? ⟨b, o + (k + 2), none⟩ = some (.int .u8 (x2 : Nat)) := by rw [q2]; simp only [hx2]
      rw [hx2] at h2
      try rw [hx2] at HA
      try rw [hx2] at HB
      clear q2 hx2
      have g1 : (k : Int) + 1 < n := by omega
      have n1 : k + 1 < n := by omega
      have g2 : (k : Int) + 2 < n := by omega
      have n2 : k + 2 < n := by omega
      go_enter Tryd.func10, Tryd.ntmps10
      go_wp2_with (first | (go_at_call 30; refine (HSz.out _).mono ?_; rintro e w1 ⟨rfl, rfl⟩) | (go_at_call 31; refine (HOp.out _).mono ?_; rintro e w1 ⟨rfl, rfl⟩))
      have hRC : RC = ret4 (x : Nat) OA OB 3 := by first | exact HV0.out rfl | exact HV0.out trivial
      have hA : OA = (x1 : Nat) := HA.out
      have hB : OB = (x2 : Nat) := HB.out
      rw [hA, hB] at hRC
      obtain rfl := hRC
      exact bodyPost_ret (v := .tuple #[.agg (ret4 x (x1 : Nat) (x2 : Nat) 3), .int .i64 0]) (by simp [results, Tryd.results10, go_sem, ret4]) rfl ⟨rfl, ((Below.refl _ _).alloc (Nat.le_refl _) _).alloc (by simp) _⟩
end Go.Proofs.YtgdlcnngplfjnaaDoor.Vf
