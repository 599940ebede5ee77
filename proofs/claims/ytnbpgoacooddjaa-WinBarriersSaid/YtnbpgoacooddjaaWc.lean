import Derived.WalkKit
import Derived.ProofKit
import Derived.OpenShut
import Derived.Deep.QuietTactic
import Derived.BigQuiet
import Derived.Outline
import Derived.WalkSmall
import Derived.WalkLawsBesides
import Derived.WalkSpells
import Derived.BigGuardPart
import Derived.RegionTactic
import Derived.Deep.RegionHeld3
import Derived.Lib.Hide
import Derived.Deep.MidRow
import Derived.Below
import Derived.Deep.RegionWith
import Derived.Deep.OwnRows
import Derived.Deep.AppendLies
import Derived.Deep.RegionLaw
import Derived.Laws.BitsAllLaws
import Derived.Laws.BitsLemmas
import Derived.Deep.CutBlock
import Derived.Deep.DeepCutAuto
import Derived.Test.YtnbpgoacooddjaaWb
import Derived.Test.YtnbpgoacooddjaaSmH
namespace Go.Proofs.Ytnbpgoacooddjaa
open Go.ChangeShapes Go.WideShapes Go.ChangeAt Go.RowKit
set_option linter.unusedVariables false
attribute [local go_sem] rowAt_drew rowAt_drewN
set_option maxRecDepth 100000 in
set_option maxHeartbeats 4000000 in
theorem get_w (r : Rg) (reg : Int) (w : World) : Calls Try.prog 164 #[.agg r.arr, .int .i64 reg] w fun e w' => e = .returned (.int .u64 (getF r reg)) ∧ Below w.heap.size w w' := by
  have HB : Hid (rowAt (w.alloc (.cells r.arr 26)) w.heap.size = some r.arr) := Lib.hid (rowAt_new _ _ _)
  by_cases h : reg = 33
  · subst h
    have c32 : (w.alloc (.cells r.arr 26)).cell? ⟨w.heap.size, 32, none⟩ = some (.bool r.n) := (rowAt_cell HB.out 32).trans r.at32
    have c33 : (w.alloc (.cells r.arr 26)).cell? ⟨w.heap.size, 33, none⟩ = some (.bool r.z) := (rowAt_cell HB.out 33).trans r.at33
    have c34 : (w.alloc (.cells r.arr 26)).cell? ⟨w.heap.size, 34, none⟩ = some (.bool r.c) := (rowAt_cell HB.out 34).trans r.at34
    have c35 : (w.alloc (.cells r.arr 26)).cell? ⟨w.heap.size, 35, none⟩ = some (.bool r.v) := (rowAt_cell HB.out 35).trans r.at35
    have HG : Hid (getF r 33 = (if r.z then 1 else 0) + (if r.n then 2 else 0) + (if r.c then 4 else 0) + (if r.v then 8 else 0)) := Lib.hid rfl
    generalize r.n = fn at *
    generalize r.z = fz at *
    generalize r.c = fc at *
    generalize r.v = fv at *
    clear HB
    have hx0 : ∀ w, (Instr.index 265 (.agg #[.bool fz, .bool fn, .bool fc, .bool fv]) (.int .i64 0)).run Try.prog w = .ok (.bool fz) w := fun _ => by kernel_rfl
    have hx1 : ∀ w, (Instr.index 265 (.agg #[.bool fz, .bool fn, .bool fc, .bool fv]) (.int .i64 1)).run Try.prog w = .ok (.bool fn) w := fun _ => by kernel_rfl
    have hx2 : ∀ w, (Instr.index 265 (.agg #[.bool fz, .bool fn, .bool fc, .bool fv]) (.int .i64 2)).run Try.prog w = .ok (.bool fc) w := fun _ => by kernel_rfl
    have hx3 : ∀ w, (Instr.index 265 (.agg #[.bool fz, .bool fn, .bool fc, .bool fv]) (.int .i64 3)).run Try.prog w = .ok (.bool fv) w := fun _ => by kernel_rfl
    cases fn <;> cases fz <;> cases fc <;> cases fv
    all_goals
      go_enter Try.func164, Try.ntmps164
      go_wp2
      refine wp_loop_rounds 5 ?_
      rw [rounds_succ]
      go_wp2
      rw [rounds_succ]
      go_wp2
      rw [rounds_succ]
      go_wp2
      rw [rounds_succ]
      go_wp2
      rw [rounds_succ]
      go_wp2
      go_ret
      first | exact ⟨by rw [HG.out]; rfl, (Below.refl _ _).alloc (Nat.le_refl _) _⟩ | exact ⟨by rw [HG.out]; kernel_rfl, (Below.refl _ _).alloc (Nat.le_refl _) _⟩
  · have e1 : (reg != 33) = true := by simpa using h
    have HG : Hid (getF r reg = r.get reg) := Lib.hid (if_neg h)
    clear h
    go_enter Try.func164, Try.ntmps164
    go_wp2_with (first | (refine wpl_load rfl 26 _ rfl w.heap.size 0 rfl r.arr (reg_all HB.out) ?_) | (go_at_call 196; refine (get11 r reg _).mono ?_; rintro e w2 ⟨rfl, hb⟩; have HB2 := Lib.hid (((Below.refl w.heap.size w).alloc (Nat.le_refl _) (.cells r.arr 26)).trans (hb.mono (by simp))); clear hb))
    go_ret
    exact ⟨by rw [HG.out]; rfl, HB2.out⟩
set_option maxRecDepth 100000 in
set_option maxHeartbeats 4000000 in
theorem set_w (r : Rg) (reg v : Int) (w : World) : Calls Try.prog 150 #[.agg r.arr, .int .i64 reg, .int .u64 v] w fun e w' => e = .returned (.agg (setF r reg v).arr) ∧ Below w.heap.size w w' := by
  have HB : Hid (rowAt ((w.alloc (.cells r.arr 26)).alloc (.cells z36 26)) w.heap.size = some r.arr) := Lib.hid (rowAt_past (rowAt_new _ _ _) _)
  have HZ : Hid (rowAt ((w.alloc (.cells r.arr 26)).alloc (.cells z36 26)) (w.heap.size + 1) = some z36) := Lib.hid (by have := rowAt_new (w.alloc (.cells r.arr 26)) z36 26; simpa using this)
  have HL : Hid (Below w.heap.size w ((w.alloc (.cells r.arr 26)).alloc (.cells z36 26))) := Lib.hid (((Below.refl _ _).alloc (Nat.le_refl _) _).alloc (by simp) _)
  by_cases h : reg = 33
  · subst h
    have HG : Hid (setF r 33 v = r.flags (bitB v 2) (bitB v 1) (bitB v 4) (bitB v 8)) := Lib.hid rfl
    obtain ⟨b1, h1⟩ : ∃ b, (bits .and .u64 v 1 != 0) = b := ⟨_, rfl⟩
    obtain ⟨b2, h2⟩ : ∃ b, (bits .and .u64 v 2 != 0) = b := ⟨_, rfl⟩
    obtain ⟨b4, h4⟩ : ∃ b, (bits .and .u64 v 4 != 0) = b := ⟨_, rfl⟩
    obtain ⟨b8, h8⟩ : ∃ b, (bits .and .u64 v 8 != 0) = b := ⟨_, rfl⟩
    have HE : Hid (setF r 33 v = r.flags b2 b1 b4 b8) := Lib.hid (by rw [HG.out, ← h1, ← h2, ← h4, ← h8]; rfl)
    clear HG
    have c32 : ((w.alloc (.cells r.arr 26)).alloc (.cells z36 26)).cell? ⟨w.heap.size, 32, none⟩ = some (.bool r.n) := (rowAt_cell HB.out 32).trans r.at32
    have c33 : ((w.alloc (.cells r.arr 26)).alloc (.cells z36 26)).cell? ⟨w.heap.size, 33, none⟩ = some (.bool r.z) := (rowAt_cell HB.out 33).trans r.at33
    have c34 : ((w.alloc (.cells r.arr 26)).alloc (.cells z36 26)).cell? ⟨w.heap.size, 34, none⟩ = some (.bool r.c) := (rowAt_cell HB.out 34).trans r.at34
    have c35 : ((w.alloc (.cells r.arr 26)).alloc (.cells z36 26)).cell? ⟨w.heap.size, 35, none⟩ = some (.bool r.v) := (rowAt_cell HB.out 35).trans r.at35
    have f32 := rowAt_frz HB.out 32
    have f33 := rowAt_frz HB.out 33
    have f34 := rowAt_frz HB.out 34
    have f35 := rowAt_frz HB.out 35
    have HB' : Hid (rowAt ((w.alloc (.cells r.arr 26)).alloc (.cells #[.int .u64 0, .int .u64 0, .int .u64 0, .int .u64 0, .int .u64 0, .int .u64 0, .int .u64 0, .int .u64 0, .int .u64 0, .int .u64 0, .int .u64 0, .int .u64 0, .int .u64 0, .int .u64 0, .int .u64 0, .int .u64 0, .int .u64 0, .int .u64 0, .int .u64 0, .int .u64 0, .int .u64 0, .int .u64 0, .int .u64 0, .int .u64 0, .int .u64 0, .int .u64 0, .int .u64 0, .int .u64 0, .int .u64 0, .int .u64 0, .int .u64 0, .int .u64 0, .bool false, .bool false, .bool false, .bool false] 26)) w.heap.size = some r.arr) := HB
    have HZ' : Hid (rowAt ((w.alloc (.cells r.arr 26)).alloc (.cells #[.int .u64 0, .int .u64 0, .int .u64 0, .int .u64 0, .int .u64 0, .int .u64 0, .int .u64 0, .int .u64 0, .int .u64 0, .int .u64 0, .int .u64 0, .int .u64 0, .int .u64 0, .int .u64 0, .int .u64 0, .int .u64 0, .int .u64 0, .int .u64 0, .int .u64 0, .int .u64 0, .int .u64 0, .int .u64 0, .int .u64 0, .int .u64 0, .int .u64 0, .int .u64 0, .int .u64 0, .int .u64 0, .int .u64 0, .int .u64 0, .int .u64 0, .int .u64 0, .bool false, .bool false, .bool false, .bool false] 26)) (w.heap.size + 1) = some #[.int .u64 0, .int .u64 0, .int .u64 0, .int .u64 0, .int .u64 0, .int .u64 0, .int .u64 0, .int .u64 0, .int .u64 0, .int .u64 0, .int .u64 0, .int .u64 0, .int .u64 0, .int .u64 0, .int .u64 0, .int .u64 0, .int .u64 0, .int .u64 0, .int .u64 0, .int .u64 0, .int .u64 0, .int .u64 0, .int .u64 0, .int .u64 0, .int .u64 0, .int .u64 0, .int .u64 0, .int .u64 0, .int .u64 0, .int .u64 0, .int .u64 0, .int .u64 0, .bool false, .bool false, .bool false, .bool false]) := HZ
    have HL' : Hid (Below w.heap.size w ((w.alloc (.cells r.arr 26)).alloc (.cells #[.int .u64 0, .int .u64 0, .int .u64 0, .int .u64 0, .int .u64 0, .int .u64 0, .int .u64 0, .int .u64 0, .int .u64 0, .int .u64 0, .int .u64 0, .int .u64 0, .int .u64 0, .int .u64 0, .int .u64 0, .int .u64 0, .int .u64 0, .int .u64 0, .int .u64 0, .int .u64 0, .int .u64 0, .int .u64 0, .int .u64 0, .int .u64 0, .int .u64 0, .int .u64 0, .int .u64 0, .int .u64 0, .int .u64 0, .int .u64 0, .int .u64 0, .int .u64 0, .bool false, .bool false, .bool false, .bool false] 26))) := HL
    clear HB HZ HL c32 c33 c34 c35 f32 f33 f34 f35
    go_enter Try.func150, Try.ntmps150
    go_upto_region 3 with (fail)
    generalize ((w.alloc (.cells r.arr 26)).alloc (.cells #[.int .u64 0, .int .u64 0, .int .u64 0, .int .u64 0, .int .u64 0, .int .u64 0, .int .u64 0, .int .u64 0, .int .u64 0, .int .u64 0, .int .u64 0, .int .u64 0, .int .u64 0, .int .u64 0, .int .u64 0, .int .u64 0, .int .u64 0, .int .u64 0, .int .u64 0, .int .u64 0, .int .u64 0, .int .u64 0, .int .u64 0, .int .u64 0, .int .u64 0, .int .u64 0, .int .u64 0, .int .u64 0, .int .u64 0, .int .u64 0, .int .u64 0, .int .u64 0, .bool false, .bool false, .bool false, .bool false] 26)) = W at HB' HZ' HL' ⊢
    have c32 := (rowAt_cell HB'.out 32).trans r.at32
    have c33 := (rowAt_cell HB'.out 33).trans r.at33
    have c34 := (rowAt_cell HB'.out 34).trans r.at34
    have c35 := (rowAt_cell HB'.out 35).trans r.at35
    have f32 := rowAt_frz HB'.out 32
    have f33 := rowAt_frz HB'.out 33
    have f34 := rowAt_frz HB'.out 34
    have f35 := rowAt_frz HB'.out 35
    go_upto_region 4 with (fail)
    have HR4 : Hid (rowAt ((((W.setCell ⟨w.heap.size, 33, none⟩ (.bool b1)).setCell ⟨w.heap.size, 32, none⟩ (.bool b2)).setCell ⟨w.heap.size, 34, none⟩ (.bool b4)).setCell ⟨w.heap.size, 35, none⟩ (.bool b8)) w.heap.size = some (r.flags b2 b1 b4 b8).arr) := Lib.hid (by
      have h := rowAt_set (rowAt_set (rowAt_set (rowAt_set HB'.out 33 (.bool b1)) 32 (.bool b2)) 34 (.bool b4)) 35 (.bool b8)
      rw [show ((r.arr.setIfInBounds 33 (.bool b1)).setIfInBounds 32 (.bool b2)) = ((r.arr.setIfInBounds 32 (.bool b2)).setIfInBounds 33 (.bool b1)) from (Array.setIfInBounds_comm _ _ (by decide)), Rg.flags_arr] at h
      exact h)
    have n1 : w.heap.size ≠ w.heap.size + 1 := by omega
    have HZ4 : Hid (rowAt ((((W.setCell ⟨w.heap.size, 33, none⟩ (.bool b1)).setCell ⟨w.heap.size, 32, none⟩ (.bool b2)).setCell ⟨w.heap.size, 34, none⟩ (.bool b4)).setCell ⟨w.heap.size, 35, none⟩ (.bool b8)) (w.heap.size + 1) = some #[.int .u64 0, .int .u64 0, .int .u64 0, .int .u64 0, .int .u64 0, .int .u64 0, .int .u64 0, .int .u64 0, .int .u64 0, .int .u64 0, .int .u64 0, .int .u64 0, .int .u64 0, .int .u64 0, .int .u64 0, .int .u64 0, .int .u64 0, .int .u64 0, .int .u64 0, .int .u64 0, .int .u64 0, .int .u64 0, .int .u64 0, .int .u64 0, .int .u64 0, .int .u64 0, .int .u64 0, .int .u64 0, .int .u64 0, .int .u64 0, .int .u64 0, .int .u64 0, .bool false, .bool false, .bool false, .bool false]) := Lib.hid (rowAt_set_far (rowAt_set_far (rowAt_set_far (rowAt_set_far HZ'.out n1.symm _ _) n1.symm _ _) n1.symm _ _) n1.symm _ _)
    have HL4 : Hid (Below w.heap.size w ((((W.setCell ⟨w.heap.size, 33, none⟩ (.bool b1)).setCell ⟨w.heap.size, 32, none⟩ (.bool b2)).setCell ⟨w.heap.size, 34, none⟩ (.bool b4)).setCell ⟨w.heap.size, 35, none⟩ (.bool b8))) := Lib.hid ((((HL'.out.setCell (p := ⟨w.heap.size, 33, none⟩) (Nat.le_refl _) _).setCell (p := ⟨w.heap.size, 32, none⟩) (Nat.le_refl _) _).setCell (p := ⟨w.heap.size, 34, none⟩) (Nat.le_refl _) _).setCell (p := ⟨w.heap.size, 35, none⟩) (Nat.le_refl _) _)
    generalize ((((W.setCell ⟨w.heap.size, 33, none⟩ (.bool b1)).setCell ⟨w.heap.size, 32, none⟩ (.bool b2)).setCell ⟨w.heap.size, 34, none⟩ (.bool b4)).setCell ⟨w.heap.size, 35, none⟩ (.bool b8)) = V at HR4 HZ4 HL4 ⊢
    clear c32 c33 c34 c35 f32 f33 f34 f35
    go_wp2_with (first | (refine wpl_load rfl 26 _ rfl w.heap.size 0 rfl (r.flags b2 b1 b4 b8).arr (reg_all HR4.out) ?_) | (refine wpl_store rfl 26 _ _ rfl (w.heap.size + 1) (r.flags b2 b1 b4 b8).arr #[.int .u64 0, .int .u64 0, .int .u64 0, .int .u64 0, .int .u64 0, .int .u64 0, .int .u64 0, .int .u64 0, .int .u64 0, .int .u64 0, .int .u64 0, .int .u64 0, .int .u64 0, .int .u64 0, .int .u64 0, .int .u64 0, .int .u64 0, .int .u64 0, .int .u64 0, .int .u64 0, .int .u64 0, .int .u64 0, .int .u64 0, .int .u64 0, .int .u64 0, .int .u64 0, .int .u64 0, .int .u64 0, .int .u64 0, .int .u64 0, .int .u64 0, .int .u64 0, .bool false, .bool false, .bool false, .bool false] rfl rfl HZ4.out (by rw [Rg.size]; exact info25) (by rw [Rg.size]; rfl) (Rg.one _) ?_; intro w3 hrow hg; have HR3 := Lib.hid hrow; have HL3 := Lib.hid (grown_below HL4.out hg (by omega)); clear hrow hg))
    obtain ⟨t9, ht9⟩ := rowAt_heap HR3.out
    exact bodyPost_ret (results_cell_row rfl _ _ (w.heap.size + 1) t9 (r.flags b2 b1 b4 b8).arr (0, 0) _ rfl ht9 Try.underlying26 rfl (by rw [Rg.size]; exact info25)) rfl ⟨by rw [HE.out], HL3.out⟩
  · have e1 : (reg != 33) = true := by simpa using h
    have HG : Hid (setF r reg v = r.set reg v) := Lib.hid (if_neg h)
    clear h
    go_enter Try.func150, Try.ntmps150
    go_wp2_with (first | (refine wpl_load rfl 26 _ rfl w.heap.size 0 rfl r.arr (reg_all HB.out) ?_) | (go_at_call 187; refine (set13 r reg v _).mono ?_; rintro e w2 ⟨rfl, hb⟩; have HZ2 := Lib.hid (rowAt_below HZ.out hb rfl); have HL2 := Lib.hid (below_step HL.out hb rfl rfl rfl rfl); clear hb) | (refine wpl_store rfl 26 _ _ rfl (w.heap.size + 1) (r.set reg v).arr z36 rfl rfl HZ2.out (by rw [Rg.size]; exact info25) (by rw [Rg.size]; rfl) (Rg.one _) ?_; intro w3 hrow hg; have HR3 := Lib.hid hrow; have HL3 := Lib.hid (grown_below HL2.out hg (by omega)); clear hrow hg))
    obtain ⟨t9, ht9⟩ := rowAt_heap HR3.out
    exact bodyPost_ret (results_cell_row rfl _ _ (w.heap.size + 1) t9 (r.set reg v).arr (0, 0) _ rfl ht9 Try.underlying26 rfl (by rw [Rg.size]; exact info25)) rfl ⟨by rw [HG.out], HL3.out⟩
theorem bit_test (B x : Nat) (hB : B < 18446744073709551616) : (bits .and .u64 ((B : Int) / 2 ^ x) 1 == 0) = !B.testBit x := by
  have h1 : ((B : Int) / 2 ^ x) = ((B / 2 ^ x : Nat) : Int) := by simp
  have h2 : bits .and .u64 ((B / 2 ^ x : Nat) : Int) ((1 : Nat) : Int) = ((B / 2 ^ x &&& 1 : Nat) : Int) := by
    have := Nat.div_le_self B (2 ^ x)
    exact u64_and_nat _ _ (by omega) (by decide)
  rw [h1]
  rw [show (1 : Int) = ((1 : Nat) : Int) from rfl, h2, Nat.and_one_is_mod, Nat.testBit_eq_decide_div_mod_eq]
  have : B / 2 ^ x % 2 = 0 ∨ B / 2 ^ x % 2 = 1 := by omega
  rcases this with h | h <;> rw [h] <;> rfl
def ValP (o : Option Int) (w : World) (e : Ending) (w' : World) : Prop := e = .returned (.tuple #[.int .u64 (o.getD 0), .bool o.isSome]) ∧ Below w.heap.size w w'
set_option maxRecDepth 100000 in
set_option maxHeartbeats 4000000 in
theorem value_c (f : WI → InsF) (F : Nat → WI) (r : Rg) (b off n cap g m i : Nat) (reg : Int) (w : World) (HW : Hid (WnC w b off n F)) (HO : Hid (OutC f F w g m)) (hi : i ≤ m) (hm : m ≤ n) (hn : n ≤ 1000000) :
    Calls Try.prog 79 #[.agg (vwA b off n cap r g m), .int .i64 i, .int .i64 reg] w (ValP (valW f F r i reg) w) := by
  have HB : Hid (rowAt (w.alloc (.cells (vwA b off n cap r g m) 126)) w.heap.size = some (vwA b off n cap r g m)) := Lib.hid (rowAt_new _ _ _)
  have HL : Hid (Below w.heap.size w (w.alloc (.cells (vwA b off n cap r g m) 126))) := Lib.hid ((Below.refl _ _).alloc (Nat.le_refl _) _)
  replace HW := Lib.hid (HW.out.below HL.out)
  replace HO := Lib.hid (HO.out.below HL.out)
  have c0 := (rowAt_cell HB.out 0).trans (vwA_0 _ _ _ _ _ _ _)
  have c37 := (rowAt_cell HB.out 37).trans (vwA_37 _ _ _ _ _ _ _)
  by_cases hr : reg < 0 ∨ 33 < reg ∨ reg = 31
  · have HV : Hid (valW f F r i reg = some 0) := Lib.hid (if_pos hr)
    rcases hr with hr | hr | rfl
    · go_enter Try.func79, Try.ntmps79
      go_wp2
      go_ret2
      exact ⟨by rw [HV.out]; rfl, HL.out⟩
    · have h0 : ¬ reg < 0 := by omega
      go_enter Try.func79, Try.ntmps79
      go_wp2
      go_ret2
      exact ⟨by rw [HV.out]; rfl, HL.out⟩
    · go_enter Try.func79, Try.ntmps79
      go_wp2
      go_ret2
      exact ⟨by rw [HV.out]; rfl, HL.out⟩
  · have HV : Hid (valW f F r i reg = valS f F r reg i) := Lib.hid (if_neg hr)
    obtain ⟨x, rfl⟩ : ∃ x : Nat, reg = x := ⟨reg.toNat, by omega⟩
    have x1 : (x : Int) ≤ 33 := by omega
    have x2 : ((x : Int) == 31) = false := by simp; omega
    clear hr
    go_enter Try.func79, Try.ntmps79
    go_wp2
    go_loop [6, 7, 8] (fun s6 s7 s8 => ∃ k : Nat, k ≤ i ∧ s8 = .int .i64 ((k : Int) - 1) ∧ s6 = .int .u64 0 ∧ s7 = .bool false ∧ valS f F r x i = valS f F r x k) (fun _ _ s8 => (intOf s8 + 1).toNat)
    case atStart => exact ⟨i, Nat.le_refl _, rfl, rfl, rfl, rfl⟩
    case round =>
      obtain ⟨k, hk, rfl, rfl, rfl, hV⟩ := hrel
      replace hV := Lib.hid hV
      cases k with
      | zero =>
        have z : ((0 : Nat) : Int) - 1 = -1 := rfl
        rw [z]
        clear z
        go_wp2_with (first | (refine wpl_load rfl 26 _ rfl w.heap.size 1 rfl r.arr (vw_regs HB.out) ?_) | (go_at_call 164; refine (get_w r x _).mono ?_; rintro e w2 ⟨rfl, hb⟩; have HL2 := Lib.hid (below_step HL.out hb rfl rfl rfl rfl); clear hb))
        go_ret2
        exact ⟨by rw [HV.out, hV.out]; rfl, HL2.out⟩
      | succ j =>
        have z : ((j + 1 : Nat) : Int) - 1 = j := by omega
        rw [z]
        clear z
        have hj : j < n := by omega
        obtain ⟨B, hB, hB2, hB3⟩ := HO.out.2 j (by omega)
        have hdn := HW.out.dn j (by omega)
        by_cases hx : (x : Int) ∈ (f (F j)).outL
        · have e1 : (bits .and .u64 ((B : Int) / 2 ^ x) 1 == 0) = false := by rw [bit_test B x hB2, hB3 x (by omega)]; simp [hx]
          have HX := Lib.hid hx
          have HB3 := Lib.hid hB3
          clear hx hB3 hB2
          cases hd : (F j).dn
          · rw [hd] at hdn
            have HD := Lib.hid hd
            clear hd
            go_wp2
            go_ret2
            exact ⟨by rw [HV.out, hV.out]; unfold valS; rw [if_pos HX.out, HD.out]; rfl, HL.out⟩
          · rw [hd] at hdn
            have HD := Lib.hid hd
            clear hd
            go_wp2_with (first | (refine wpl_load rfl 26 _ rfl b (off + j * 46 + 10) rfl (F j).r.arr (HW.out.regs j hj) ?_) | (go_at_call 164; refine (get_w (F j).r x _).mono ?_; rintro e w2 ⟨rfl, hb⟩; have HL2 := Lib.hid (below_step HL.out hb rfl rfl rfl rfl); clear hb))
            go_ret2
            exact ⟨by rw [HV.out, hV.out]; unfold valS; rw [if_pos HX.out, HD.out]; rfl, HL2.out⟩
        · have e1 : (bits .and .u64 ((B : Int) / 2 ^ x) 1 == 0) = true := by rw [bit_test B x hB2, hB3 x (by omega)]; simp [hx]
          have HX := Lib.hid hx
          have HB3 := Lib.hid hB3
          clear hx hB3 hB2
          go_wp2
          go_round
          case rel => exact ⟨j, by omega, rfl, rfl, rfl, by rw [hV.out]; show valS f F r x (j + 1) = _; rw [valS]; rw [if_neg HX.out]⟩
          case measure => simp [intOf]
theorem results_row_tmp {P : Program} {fn : Func} {p t2 : Tmp} {ty : TypeId} (h : fn.results = #[.cell p ty, .tmp t2]) (tmps : Array Value) (w : World) (g : Nat) (t : TypeId) (cs : Array Value) (fr : Nat × Nat) (d : TypeDesc)
    (hp : tmps.getD p undef = .pointer (some ⟨g, 0, none⟩)) (hg : w.heap[g]? = some (.cells cs t fr))
    (hu : P.underlying ty = some d) (hd : (match d with | .struct _ | .array _ _ => true | _ => false) = true) (hi : (P.info? ty).map (·.size) = some cs.size) :
    (results fn tmps).run P w = .ok (.tuple #[.agg cs, tmps.getD t2 undef]) w := by
  have hp' : tmps[p]?.getD undef = .pointer (some ⟨g, 0, none⟩) := by simpa using hp
  simp [results, h, hp', asAddr, run_loadVar_row w g t ty cs fr d hg hu hd hi]
/-- A slice of numbers. -/
def RowI (w : World) (lv : Value) (L : List Int) : Prop := (L = [] ∧ ∃ a c, lv = .slice a 0 c) ∨ ∃ a o cp, lv = .slice (some ⟨a, o, none⟩) L.length cp ∧ a < w.heap.size ∧ L.length ≤ 100 ∧ ∀ p x, L[p]? = some x → w.cell? ⟨a, o + p, none⟩ = some (.int .i64 x)
def InpP (o : Option Rg) (w : World) (e : Ending) (w' : World) : Prop := e = .returned (.tuple #[.agg (match o with | some r => r.arr | none => z36), .bool o.isSome]) ∧ Below w.heap.size w w'
structure InS (w : World) (VA : Array Value) (r : Rg) (W : World) : Prop where
  vb : rowAt W w.heap.size = some VA
  zb : rowAt W (w.heap.size + 1) = some z36
  rb : rowAt W (w.heap.size + 2) = some r.arr
  bl : Below w.heap.size w W
set_option maxRecDepth 100000 in
set_option maxHeartbeats 4000000 in
theorem inputs_c (f : WI → InsF) (F : Nat → WI) (r : Rg) (b off n cap g m i : Nat) (lv : Value) (L : List Int) (w : World) (HW : Hid (WnC w b off n F)) (HO : Hid (OutC f F w g m)) (HI : Hid (RowI w lv L)) (hi : i ≤ m) (hm : m ≤ n) (hn : n ≤ 1000000) :
    Calls Try.prog 70 #[.agg (vwA b off n cap r g m), .int .i64 i, lv] w (InpP (inpS f F r i L r) w) := by
  obtain ⟨a, o, cp, ln, hlv, hln, hll, HC⟩ : ∃ a o cp ln, lv = .slice a ln cp ∧ ln = L.length ∧ ln ≤ 100 ∧ Hid (∀ p x, L[p]? = some x → ∃ bb, a = some ⟨bb, o, none⟩ ∧ bb < w.heap.size ∧ w.cell? ⟨bb, o + p, none⟩ = some (.int .i64 x)) := by
    rcases HI.out with ⟨rfl, a, c, rfl⟩ | ⟨a, o, cp, rfl, h1, h2, h3⟩
    · exact ⟨a, 0, c, 0, rfl, rfl, by omega, Lib.hid (fun p x h => by simp at h)⟩
    · exact ⟨some ⟨a, o, none⟩, o, cp, L.length, rfl, rfl, h2, Lib.hid (fun p x h => ⟨a, rfl, h1, h3 p x h⟩)⟩
  subst hlv
  have HLN := Lib.hid hln
  clear hln HI
  obtain ⟨VA, hVA⟩ : ∃ VA, VA = vwA b off n cap r g m := ⟨_, rfl⟩
  rw [← hVA]
  have HVA := Lib.hid hVA
  clear hVA
  have HS0 : Hid (InS w VA ⟨fun _ => 0, 0, false, false, false, false⟩ (((w.alloc (.cells VA 126)).alloc (.cells z36 26)).alloc (.cells z36 26))) := Lib.hid ⟨rowAt_past (rowAt_past (rowAt_new _ _ _) _) _, rowAt_past (by have := rowAt_new (w.alloc (.cells VA 126)) z36 26; simpa using this) _, by have h := rowAt_new ((w.alloc (.cells VA 126)).alloc (.cells z36 26)) z36 26; rw [show ((w.alloc (.cells VA 126)).alloc (.cells z36 26)).heap.size = w.heap.size + 2 by simp] at h; exact h, (((Below.refl _ _).alloc (Nat.le_refl _) _).alloc (by simp) _).alloc (by simp; omega) _⟩
  go_enter Try.func70, Try.ntmps70
  go_wp2_with (first | (refine wpl_load rfl 26 _ rfl w.heap.size 1 rfl r.arr (vw_regs (b := b) (off := off) (n := n) (cap := cap) (g := g) (m := m) (by rw [← HVA.out]; first | exact HS0.out.vb | exact rowAt_past (rowAt_new _ _ _) _)) ?_) | (refine wpl_store rfl 26 _ _ rfl (w.heap.size + 2) r.arr z36 rfl rfl HS0.out.rb (by rw [Rg.size]; exact info25) (by rw [Rg.size]; rfl) (Rg.one _) ?_; intro w3 hrow hg; have HS3 : Hid (InS w VA r w3) := Lib.hid ⟨rowAt_grown HS0.out.vb hg (by omega), rowAt_grown HS0.out.zb hg (by omega), hrow, grown_below HS0.out.bl hg (by omega)⟩; clear hrow hg))
  go_loopw [7, 17] (fun s7 s17 W => ∃ (p : Nat) (r' : Rg), p ≤ ln ∧ s17 = .int .i64 p ∧ s7 = .bool false ∧ InS w VA r' W ∧ inpS f F r i L r = inpS f F r i (L.drop p) r') (fun _ s17 _ => ln - (intOf s17).toNat)
  case atStart => exact ⟨0, r, by omega, rfl, rfl, HS3.out, rfl⟩
  case round =>
    obtain ⟨p, r', hp, rfl, rfl, hS, hE⟩ := hrel
    replace hS := Lib.hid hS
    replace hE := Lib.hid hE
    have HWn := Lib.hid (HW.out.below hS.out.bl)
    have HOn := Lib.hid (HO.out.below hS.out.bl)
    by_cases hlt : p < ln
    · obtain ⟨x, hx⟩ : ∃ x, L[p]? = some x := ⟨_, List.getElem?_eq_getElem (by rw [← HLN.out]; exact hlt)⟩
      obtain ⟨bb, ha, hbb, hc0⟩ := HC.out p x hx
      have hc := (hS.out.bl.cell (p := ⟨bb, o + p, none⟩) hbb).trans hc0
      have hdr : Hid (L.drop p = x :: L.drop (p + 1)) := Lib.hid (by
        have hpl : p < L.length := by rw [← HLN.out]; exact hlt
        rw [List.drop_eq_getElem_cons hpl]
        congr 1
        rw [List.getElem?_eq_getElem hpl] at hx
        injection hx)
      clear hc0 hx HC
      subst ha
      have HV : Hid (Calls Try.prog 79 #[.agg VA, .int .i64 i, .int .i64 x] wr (ValP (valW f F r i x) wr)) := Lib.hid (by rw [HVA.out]; exact value_c f F r b off n cap g m i x _ HWn HOn hi hm hn)
      cases hv : valW f F r i x with
      | none =>
        rw [hv] at HV
        have HVN := Lib.hid hv
        clear hv
        go_wp2_with (first | (refine wpl_load rfl 126 _ rfl w.heap.size 0 rfl VA (by rw [HVA.out]; exact vw_all (by rw [← HVA.out]; exact hS.out.vb)) ?_) | (go_at_call 79; refine (HV.out).mono ?_; rintro e w2 ⟨rfl, hb⟩; have HZ2 := Lib.hid (rowAt_below hS.out.zb hb rfl); have HL2 := Lib.hid (below_step hS.out.bl hb rfl rfl rfl rfl); clear hb) | (refine wpl_store rfl 26 _ _ rfl (w.heap.size + 1) z36 z36 rfl rfl HZ2.out (by rw [z36, Rg.size]; exact info25) rfl (Rg.one _) ?_; intro w3 hrow hg; have HR3 := Lib.hid hrow; have HL3 := Lib.hid (grown_below HL2.out hg (by omega)); clear hrow hg))
        obtain ⟨t9, ht9⟩ := rowAt_heap HR3.out
        exact bodyPost_ret (results_row_tmp rfl _ _ (w.heap.size + 1) t9 z36 (0, 0) _ rfl ht9 Try.underlying26 rfl (by rw [z36, Rg.size]; exact info25)) rfl ⟨by rw [hE.out, hdr.out, inpS, HVN.out]; rfl, HL3.out⟩
      | some v =>
        rw [hv] at HV
        have HVN := Lib.hid hv
        clear hv
        go_wp2_with (first | (refine wpl_load rfl 126 _ rfl w.heap.size 0 rfl VA (by rw [HVA.out]; exact vw_all (by rw [← HVA.out]; exact hS.out.vb)) ?_) | (go_at_call 79; refine (HV.out).mono ?_; rintro e w2 ⟨rfl, hb⟩; have HV2 := Lib.hid (rowAt_below hS.out.vb hb rfl); have HZ2 := Lib.hid (rowAt_below hS.out.zb hb rfl); have HR2 := Lib.hid (rowAt_below hS.out.rb hb rfl); have HL2 := Lib.hid (below_step hS.out.bl hb rfl rfl rfl rfl); clear hb) | (refine wpl_load rfl 26 _ rfl (w.heap.size + 2) 0 rfl r'.arr (reg_all HR2.out) ?_) | (go_at_call 150; refine (set_w r' x v _).mono ?_; rintro e w3 ⟨rfl, hb⟩; have HV3 := Lib.hid (rowAt_below HV2.out hb rfl); have HZ3 := Lib.hid (rowAt_below HZ2.out hb rfl); have HR3 := Lib.hid (rowAt_below HR2.out hb rfl); have HL3 := Lib.hid (below_step HL2.out hb rfl rfl rfl rfl); clear hb) | (refine wpl_store rfl 26 _ _ rfl (w.heap.size + 2) (setF r' x v).arr r'.arr rfl rfl HR3.out (by rw [Rg.size]; exact info25) (by rw [Rg.size, Rg.size]) (Rg.one _) ?_; intro w4 hrow hg; have HS4 : Hid (InS w VA (setF r' x v) w4) := Lib.hid ⟨rowAt_grown HV3.out hg (by omega), rowAt_grown HZ3.out hg (by omega), hrow, grown_below HL3.out hg (by omega)⟩; clear hrow hg))
        go_roundw
        case rel => exact ⟨p + 1, setF r' x v, by omega, by go_num, rfl, HS4.out, by rw [hE.out, hdr.out, inpS, HVN.out]⟩
        case measure => simp [intOf]; omega
    · have hpe : p = ln := by omega
      have HPE : Hid (L.drop p = []) := Lib.hid (by rw [hpe, HLN.out]; simp)
      clear hpe
      go_wp2_with (first | (refine wpl_load rfl 26 _ rfl (w.heap.size + 2) 0 rfl r'.arr (reg_all hS.out.rb) ?_) | (refine wpl_store rfl 26 _ _ rfl (w.heap.size + 1) r'.arr z36 rfl rfl hS.out.zb (by rw [Rg.size]; exact info25) (by rw [Rg.size]; rfl) (Rg.one _) ?_; intro w3 hrow hg; have HR3 := Lib.hid hrow; have HL3 := Lib.hid (grown_below hS.out.bl hg (by omega)); clear hrow hg))
      obtain ⟨t9, ht9⟩ := rowAt_heap HR3.out
      exact bodyPost_ret (results_row_tmp rfl _ _ (w.heap.size + 1) t9 r'.arr (0, 0) _ rfl ht9 Try.underlying26 rfl (by rw [Rg.size]; exact info25)) rfl ⟨by rw [hE.out, HPE.out]; rfl, HL3.out⟩
end Go.Proofs.Ytnbpgoacooddjaa
