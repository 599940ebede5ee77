import Derived.Test.YtpjfjdncdiemlaaRows
import Derived.WalkKit
import Derived.ProofKit
import Derived.OpenShut
import Derived.Deep.QuietTactic
import Derived.BigQuiet
import Derived.Outline
import Derived.WalkSmall
import Derived.WalkLawsBesides
import Derived.WalkSpells
import Derived.BigGuardPart
import Derived.RegionTactic
import Derived.Deep.RegionHeld3
import Derived.Lib.Hide
import Derived.Deep.MidRow
import Derived.Below
import Derived.Deep.RegionWith
import Derived.Test.YtpjfjdncdiemlaaSfB
import Derived.Test.YtpjfjdncdiemlaaSxX
import Derived.Test.YtpjfjdncdiemlaaSmH
import Derived.Laws.BitsAllLaws
import Derived.Laws.BitsLemmas
namespace Go.Proofs.Ytpjfjdncdiemlaa
open Go.ChangeShapes Go.WideShapes Go.ChangeAt Go.RowKit
set_option linter.unusedVariables false
attribute [local go_sem ↓] ld76 ld25 ld38
attribute [local go_sem] rowAt_drew rowAt_drewN
def divV (a b : Int) : Int := if b = 0 then 0 else wrap64 (a.tdiv b)
theorem div_c (a b : Int) (w : World) : Calls Try.prog 93 #[.int .i64 a, .int .i64 b] w fun e w' => e = .returned (.int .i64 (divV a b)) ∧ w' = w := by
  by_cases hb : b = 0
  · subst hb
    go_enter Try.func93, Try.ntmps93
    go_wp2
    go_ret
    exact ⟨rfl, rfl⟩
  · have h : (b == 0) = false := by simpa using hb
    rw [show divV a b = wrap64 (a.tdiv b) from if_neg hb]
    go_enter Try.func93, Try.ntmps93
    go_wp2
    go_ret
    exact ⟨rfl, rfl⟩
theorem and63 (y : Int) (h1 : 0 ≤ y) (h2 : y < 18446744073709551616) : 0 ≤ bits .and .u64 y 63 := by
  obtain ⟨X, rfl⟩ := Int.eq_ofNat_of_zero_le h1
  show 0 ≤ IntKind.u64.wrap ((BitVec.ofInt 64 (X : Int) &&& BitVec.ofInt 64 ((63 : Nat) : Int)).toNat : Int)
  rw [IntKind.wrap_u64]
  omega
def shiftV : Nat → Int → Int → Int
  | 0, x, y => IntKind.u64.wrap (x * 2 ^ min (bits .and .u64 y 63).toNat 64)
  | 1, x, y => x / 2 ^ min (bits .and .u64 y 63).toNat 64
  | _, x, y => IntKind.u64.wrap (wrap64 x / 2 ^ min (bits .and .u64 y 63).toNat 64)
theorem shift_0 (x y : Int) (w : World) (h1 : 0 ≤ y) (h2 : y < 18446744073709551616) : Calls Try.prog 94 #[.int .u64 x, .int .u64 y, .int .i64 0] w fun e w' => e = .returned (.int .u64 (shiftV 0 x y)) ∧ w' = w := by
  have hy := and63 y h1 h2
  go_enter Try.func94, Try.ntmps94
  go_wp2
  go_ret
  exact ⟨rfl, rfl⟩
theorem shift_1 (x y : Int) (w : World) (h1 : 0 ≤ y) (h2 : y < 18446744073709551616) : Calls Try.prog 94 #[.int .u64 x, .int .u64 y, .int .i64 1] w fun e w' => e = .returned (.int .u64 (shiftV 1 x y)) ∧ w' = w := by
  have hy := and63 y h1 h2
  go_enter Try.func94, Try.ntmps94
  go_wp2
  go_ret
  exact ⟨rfl, rfl⟩
theorem shift_2 (x y : Int) (w : World) (h1 : 0 ≤ y) (h2 : y < 18446744073709551616) : Calls Try.prog 94 #[.int .u64 x, .int .u64 y, .int .i64 2] w fun e w' => e = .returned (.int .u64 (shiftV 2 x y)) ∧ w' = w := by
  have hy := and63 y h1 h2
  go_enter Try.func94, Try.ntmps94
  go_wp2
  go_ret
  exact ⟨rfl, rfl⟩
set_option maxRecDepth 100000 in
set_option maxHeartbeats 4000000 in
theorem divide_g (o d n m a c i pc : Int) (x : Int) (r : Rg) (w : World) (h1 : ∀ w, Calls Try.prog 64 #[.agg (coA #[.int .i64 o, .int .i64 d, .int .i64 n, .int .i64 m, .int .i64 a, .int .i64 c, .int .i64 i] pc r)] w fun e w' => e = .returned (.int .u64 (x)) ∧ Below w.heap.size w w') :
    Calls Try.prog 88 #[.agg (coA #[.int .i64 o, .int .i64 d, .int .i64 n, .int .i64 m, .int .i64 a, .int .i64 c, .int .i64 i] pc r)] w fun e w' => e = .returned (.int .u64 (IntKind.u64.wrap (divV (IntKind.i64.wrap x) (IntKind.i64.wrap (r.get m))))) ∧ Below w.heap.size w w' := by
  have H0 := fun w => Lib.hid (h1 w)
  have H1 := fun w => Lib.hid (second_c o d n m a c i pc r w)
  clear h1
  have hc0 := coA_lo (i := #[.int .i64 o, .int .i64 d, .int .i64 n, .int .i64 m, .int .i64 a, .int .i64 c, .int .i64 i]) rfl pc r 0 (by omega)
  have HA := Lib.hid (coA_all (i := #[.int .i64 o, .int .i64 d, .int .i64 n, .int .i64 m, .int .i64 a, .int .i64 c, .int .i64 i]) rfl pc r)
  have HS := Lib.hid (coA_size (i := #[.int .i64 o, .int .i64 d, .int .i64 n, .int .i64 m, .int .i64 a, .int .i64 c, .int .i64 i]) rfl pc r)
  have HL := Lib.hid (fun w b => core_regs (w := w) (b := b) (i := #[.int .i64 o, .int .i64 d, .int .i64 n, .int .i64 m, .int .i64 a, .int .i64 c, .int .i64 i]) rfl (pc := pc) (r := r))
  have HM := Lib.hid (fun w b => core_all (w := w) (b := b) (i := #[.int .i64 o, .int .i64 d, .int .i64 n, .int .i64 m, .int .i64 a, .int .i64 c, .int .i64 i]) rfl (pc := pc) (r := r))
  simp only [List.getElem?_toArray, List.getElem?_cons_zero] at hc0
  generalize hC : coA #[.int .i64 o, .int .i64 d, .int .i64 n, .int .i64 m, .int .i64 a, .int .i64 c, .int .i64 i] pc r = C at *
  have HB := Lib.hid (rowAt_new w C 76)
  clear hC
  go_enter Try.func88, Try.ntmps88
  go_wp2_with fail
  have HBB : Hid (Below w.heap.size w (w.alloc (.cells C 76))) := Lib.hid ((Below.refl _ _).alloc (Nat.le_refl _) (.cells C 76))
  obtain ⟨b, hb⟩ : ∃ b, b = w.heap.size := ⟨_, rfl⟩
  rw [← hb] at HB
  have HN := Lib.hid hb
  rw [← hb]
  clear hb
  have hB := HB.out
  have ha : ∀ w', rowAt w' b = some C → (ldAt 76 (.pointer (some ⟨b, 0, none⟩))).run Try.prog w' = .ok (.agg C) w' := fun w' h => HM.out w' b h
  generalize w.alloc (.cells C 76) = w1 at *
  go_region_held3 (fun w' => rowAt w' b = some C) (assumption) (first | (go_at_call 64; refine ((H0 _).out).mono ?_; rintro e w' ⟨rfl, hb0⟩; have hB0 := rowAt_below (by assumption) hb0 rfl; have HB0 := Lib.hid (below_step HBB.out hb0 rfl rfl rfl rfl); replace HBB := HB0; clear HB0 hb0) | (go_at_call 59; refine ((H1 _).out).mono ?_; rintro e w' ⟨rfl, hb1⟩; have hB1 := rowAt_below (by assumption) hb1 rfl; have HB1 := Lib.hid (below_step HBB.out hb1 rfl rfl rfl rfl); replace HBB := HB1; clear HB1 hb1) | (go_at_call 93; refine (div_c _ _ _).mono ?_; rintro e w9 ⟨rfl, rfl⟩))
  all_goals
    go_wp2
    go_ret
    exact ⟨rfl, HBB.out⟩
set_option maxRecDepth 100000 in
set_option maxHeartbeats 4000000 in
theorem shift_g16 (d n m a c i pc : Int) (x : Int) (r : Rg) (w : World) (y1 : 0 ≤ r.get m) (y2 : r.get m < 18446744073709551616) (h1 : ∀ w, Calls Try.prog 64 #[.agg (coA #[.int .i64 16, .int .i64 d, .int .i64 n, .int .i64 m, .int .i64 a, .int .i64 c, .int .i64 i] pc r)] w fun e w' => e = .returned (.int .u64 (x)) ∧ Below w.heap.size w w') :
    Calls Try.prog 89 #[.agg (coA #[.int .i64 16, .int .i64 d, .int .i64 n, .int .i64 m, .int .i64 a, .int .i64 c, .int .i64 i] pc r)] w fun e w' => e = .returned (.int .u64 (shiftV 0 x (r.get m))) ∧ Below w.heap.size w w' := by
  have H0 := fun w => Lib.hid (h1 w)
  have H1 := fun w => Lib.hid (second_c 16 d n m a c i pc r w)
  clear h1
  have hc0 := coA_lo (i := #[.int .i64 16, .int .i64 d, .int .i64 n, .int .i64 m, .int .i64 a, .int .i64 c, .int .i64 i]) rfl pc r 0 (by omega)
  have HA := Lib.hid (coA_all (i := #[.int .i64 16, .int .i64 d, .int .i64 n, .int .i64 m, .int .i64 a, .int .i64 c, .int .i64 i]) rfl pc r)
  have HS := Lib.hid (coA_size (i := #[.int .i64 16, .int .i64 d, .int .i64 n, .int .i64 m, .int .i64 a, .int .i64 c, .int .i64 i]) rfl pc r)
  have HL := Lib.hid (fun w b => core_regs (w := w) (b := b) (i := #[.int .i64 16, .int .i64 d, .int .i64 n, .int .i64 m, .int .i64 a, .int .i64 c, .int .i64 i]) rfl (pc := pc) (r := r))
  have HM := Lib.hid (fun w b => core_all (w := w) (b := b) (i := #[.int .i64 16, .int .i64 d, .int .i64 n, .int .i64 m, .int .i64 a, .int .i64 c, .int .i64 i]) rfl (pc := pc) (r := r))
  simp only [List.getElem?_toArray, List.getElem?_cons_zero] at hc0
  generalize hC : coA #[.int .i64 16, .int .i64 d, .int .i64 n, .int .i64 m, .int .i64 a, .int .i64 c, .int .i64 i] pc r = C at *
  have HB := Lib.hid (rowAt_new w C 76)
  clear hC
  go_enter Try.func89, Try.ntmps89
  go_wp2_with fail
  have HBB : Hid (Below w.heap.size w (w.alloc (.cells C 76))) := Lib.hid ((Below.refl _ _).alloc (Nat.le_refl _) (.cells C 76))
  obtain ⟨b, hb⟩ : ∃ b, b = w.heap.size := ⟨_, rfl⟩
  rw [← hb] at HB
  have HN := Lib.hid hb
  rw [← hb]
  clear hb
  have hB := HB.out
  have ha : ∀ w', rowAt w' b = some C → (ldAt 76 (.pointer (some ⟨b, 0, none⟩))).run Try.prog w' = .ok (.agg C) w' := fun w' h => HM.out w' b h
  generalize w.alloc (.cells C 76) = w1 at *
  go_region_held3 (fun w' => rowAt w' b = some C) (assumption) (first | (go_at_call 64; refine ((H0 _).out).mono ?_; rintro e w' ⟨rfl, hb0⟩; have hB0 := rowAt_below (by assumption) hb0 rfl; have HB0 := Lib.hid (below_step HBB.out hb0 rfl rfl rfl rfl); replace HBB := HB0; clear HB0 hb0) | (go_at_call 59; refine ((H1 _).out).mono ?_; rintro e w' ⟨rfl, hb1⟩; have hB1 := rowAt_below (by assumption) hb1 rfl; have HB1 := Lib.hid (below_step HBB.out hb1 rfl rfl rfl rfl); replace HBB := HB1; clear HB1 hb1) | (go_at_call 94; refine (shift_0 _ _ _ y1 y2).mono ?_; rintro e w9 ⟨rfl, rfl⟩))
  all_goals
    go_wp2
    go_ret
    exact ⟨rfl, HBB.out⟩
set_option maxRecDepth 100000 in
set_option maxHeartbeats 4000000 in
theorem shift_g17 (d n m a c i pc : Int) (x : Int) (r : Rg) (w : World) (y1 : 0 ≤ r.get m) (y2 : r.get m < 18446744073709551616) (h1 : ∀ w, Calls Try.prog 64 #[.agg (coA #[.int .i64 17, .int .i64 d, .int .i64 n, .int .i64 m, .int .i64 a, .int .i64 c, .int .i64 i] pc r)] w fun e w' => e = .returned (.int .u64 (x)) ∧ Below w.heap.size w w') :
    Calls Try.prog 89 #[.agg (coA #[.int .i64 17, .int .i64 d, .int .i64 n, .int .i64 m, .int .i64 a, .int .i64 c, .int .i64 i] pc r)] w fun e w' => e = .returned (.int .u64 (shiftV 1 x (r.get m))) ∧ Below w.heap.size w w' := by
  have H0 := fun w => Lib.hid (h1 w)
  have H1 := fun w => Lib.hid (second_c 17 d n m a c i pc r w)
  clear h1
  have hc0 := coA_lo (i := #[.int .i64 17, .int .i64 d, .int .i64 n, .int .i64 m, .int .i64 a, .int .i64 c, .int .i64 i]) rfl pc r 0 (by omega)
  have HA := Lib.hid (coA_all (i := #[.int .i64 17, .int .i64 d, .int .i64 n, .int .i64 m, .int .i64 a, .int .i64 c, .int .i64 i]) rfl pc r)
  have HS := Lib.hid (coA_size (i := #[.int .i64 17, .int .i64 d, .int .i64 n, .int .i64 m, .int .i64 a, .int .i64 c, .int .i64 i]) rfl pc r)
  have HL := Lib.hid (fun w b => core_regs (w := w) (b := b) (i := #[.int .i64 17, .int .i64 d, .int .i64 n, .int .i64 m, .int .i64 a, .int .i64 c, .int .i64 i]) rfl (pc := pc) (r := r))
  have HM := Lib.hid (fun w b => core_all (w := w) (b := b) (i := #[.int .i64 17, .int .i64 d, .int .i64 n, .int .i64 m, .int .i64 a, .int .i64 c, .int .i64 i]) rfl (pc := pc) (r := r))
  simp only [List.getElem?_toArray, List.getElem?_cons_zero] at hc0
  generalize hC : coA #[.int .i64 17, .int .i64 d, .int .i64 n, .int .i64 m, .int .i64 a, .int .i64 c, .int .i64 i] pc r = C at *
  have HB := Lib.hid (rowAt_new w C 76)
  clear hC
  go_enter Try.func89, Try.ntmps89
  go_wp2_with fail
  have HBB : Hid (Below w.heap.size w (w.alloc (.cells C 76))) := Lib.hid ((Below.refl _ _).alloc (Nat.le_refl _) (.cells C 76))
  obtain ⟨b, hb⟩ : ∃ b, b = w.heap.size := ⟨_, rfl⟩
  rw [← hb] at HB
  have HN := Lib.hid hb
  rw [← hb]
  clear hb
  have hB := HB.out
  have ha : ∀ w', rowAt w' b = some C → (ldAt 76 (.pointer (some ⟨b, 0, none⟩))).run Try.prog w' = .ok (.agg C) w' := fun w' h => HM.out w' b h
  generalize w.alloc (.cells C 76) = w1 at *
  go_region_held3 (fun w' => rowAt w' b = some C) (assumption) (first | (go_at_call 64; refine ((H0 _).out).mono ?_; rintro e w' ⟨rfl, hb0⟩; have hB0 := rowAt_below (by assumption) hb0 rfl; have HB0 := Lib.hid (below_step HBB.out hb0 rfl rfl rfl rfl); replace HBB := HB0; clear HB0 hb0) | (go_at_call 59; refine ((H1 _).out).mono ?_; rintro e w' ⟨rfl, hb1⟩; have hB1 := rowAt_below (by assumption) hb1 rfl; have HB1 := Lib.hid (below_step HBB.out hb1 rfl rfl rfl rfl); replace HBB := HB1; clear HB1 hb1) | (go_at_call 94; refine (shift_1 _ _ _ y1 y2).mono ?_; rintro e w9 ⟨rfl, rfl⟩))
  all_goals
    go_wp2
    go_ret
    exact ⟨rfl, HBB.out⟩
set_option maxRecDepth 100000 in
set_option maxHeartbeats 4000000 in
theorem shift_g18 (d n m a c i pc : Int) (x : Int) (r : Rg) (w : World) (y1 : 0 ≤ r.get m) (y2 : r.get m < 18446744073709551616) (h1 : ∀ w, Calls Try.prog 64 #[.agg (coA #[.int .i64 18, .int .i64 d, .int .i64 n, .int .i64 m, .int .i64 a, .int .i64 c, .int .i64 i] pc r)] w fun e w' => e = .returned (.int .u64 (x)) ∧ Below w.heap.size w w') :
    Calls Try.prog 89 #[.agg (coA #[.int .i64 18, .int .i64 d, .int .i64 n, .int .i64 m, .int .i64 a, .int .i64 c, .int .i64 i] pc r)] w fun e w' => e = .returned (.int .u64 (shiftV 2 x (r.get m))) ∧ Below w.heap.size w w' := by
  have H0 := fun w => Lib.hid (h1 w)
  have H1 := fun w => Lib.hid (second_c 18 d n m a c i pc r w)
  clear h1
  have hc0 := coA_lo (i := #[.int .i64 18, .int .i64 d, .int .i64 n, .int .i64 m, .int .i64 a, .int .i64 c, .int .i64 i]) rfl pc r 0 (by omega)
  have HA := Lib.hid (coA_all (i := #[.int .i64 18, .int .i64 d, .int .i64 n, .int .i64 m, .int .i64 a, .int .i64 c, .int .i64 i]) rfl pc r)
  have HS := Lib.hid (coA_size (i := #[.int .i64 18, .int .i64 d, .int .i64 n, .int .i64 m, .int .i64 a, .int .i64 c, .int .i64 i]) rfl pc r)
  have HL := Lib.hid (fun w b => core_regs (w := w) (b := b) (i := #[.int .i64 18, .int .i64 d, .int .i64 n, .int .i64 m, .int .i64 a, .int .i64 c, .int .i64 i]) rfl (pc := pc) (r := r))
  have HM := Lib.hid (fun w b => core_all (w := w) (b := b) (i := #[.int .i64 18, .int .i64 d, .int .i64 n, .int .i64 m, .int .i64 a, .int .i64 c, .int .i64 i]) rfl (pc := pc) (r := r))
  simp only [List.getElem?_toArray, List.getElem?_cons_zero] at hc0
  generalize hC : coA #[.int .i64 18, .int .i64 d, .int .i64 n, .int .i64 m, .int .i64 a, .int .i64 c, .int .i64 i] pc r = C at *
  have HB := Lib.hid (rowAt_new w C 76)
  clear hC
  go_enter Try.func89, Try.ntmps89
  go_wp2_with fail
  have HBB : Hid (Below w.heap.size w (w.alloc (.cells C 76))) := Lib.hid ((Below.refl _ _).alloc (Nat.le_refl _) (.cells C 76))
  obtain ⟨b, hb⟩ : ∃ b, b = w.heap.size := ⟨_, rfl⟩
  rw [← hb] at HB
  have HN := Lib.hid hb
  rw [← hb]
  clear hb
  have hB := HB.out
  have ha : ∀ w', rowAt w' b = some C → (ldAt 76 (.pointer (some ⟨b, 0, none⟩))).run Try.prog w' = .ok (.agg C) w' := fun w' h => HM.out w' b h
  generalize w.alloc (.cells C 76) = w1 at *
  go_region_held3 (fun w' => rowAt w' b = some C) (assumption) (first | (go_at_call 64; refine ((H0 _).out).mono ?_; rintro e w' ⟨rfl, hb0⟩; have hB0 := rowAt_below (by assumption) hb0 rfl; have HB0 := Lib.hid (below_step HBB.out hb0 rfl rfl rfl rfl); replace HBB := HB0; clear HB0 hb0) | (go_at_call 59; refine ((H1 _).out).mono ?_; rintro e w' ⟨rfl, hb1⟩; have hB1 := rowAt_below (by assumption) hb1 rfl; have HB1 := Lib.hid (below_step HBB.out hb1 rfl rfl rfl rfl); replace HBB := HB1; clear HB1 hb1) | (go_at_call 94; refine (shift_2 _ _ _ y1 y2).mono ?_; rintro e w9 ⟨rfl, rfl⟩))
  all_goals
    go_wp2
    go_ret
    exact ⟨rfl, HBB.out⟩
set_option maxRecDepth 100000 in
set_option maxHeartbeats 4000000 in
theorem keptg_0 (o d n a c i pc : Int) (r : Rg) (w : World) (i1 : 0 ≤ i) (i2 : i ≤ 65535) :
    Calls Try.prog 79 #[.agg (coA #[.int .i64 o, .int .i64 d, .int .i64 n, .int .i64 0, .int .i64 a, .int .i64 c, .int .i64 i] pc r)] w fun e w' => e = .returned (.int .u64 (bits .or .u64 (bits .andNot .u64 (r.get d) (IntKind.u64.wrap 65535)) (i))) ∧ Below w.heap.size w w' := by
  have H1 := fun w => Lib.hid ((get11 r d w))
  have H2 := fun w => Lib.hid ((moved_0 o d n a c i pc r w i1 i2))
  have hc1 := coA_lo (i := #[.int .i64 o, .int .i64 d, .int .i64 n, .int .i64 0, .int .i64 a, .int .i64 c, .int .i64 i]) rfl pc r 1 (by omega)
  have hc3 := coA_lo (i := #[.int .i64 o, .int .i64 d, .int .i64 n, .int .i64 0, .int .i64 a, .int .i64 c, .int .i64 i]) rfl pc r 3 (by omega)
  have HA := Lib.hid (coA_all (i := #[.int .i64 o, .int .i64 d, .int .i64 n, .int .i64 0, .int .i64 a, .int .i64 c, .int .i64 i]) rfl pc r)
  have HS := Lib.hid (coA_size (i := #[.int .i64 o, .int .i64 d, .int .i64 n, .int .i64 0, .int .i64 a, .int .i64 c, .int .i64 i]) rfl pc r)
  have HL := Lib.hid (fun w b => core_regs (w := w) (b := b) (i := #[.int .i64 o, .int .i64 d, .int .i64 n, .int .i64 0, .int .i64 a, .int .i64 c, .int .i64 i]) rfl (pc := pc) (r := r))
  have HM := Lib.hid (fun w b => core_all (w := w) (b := b) (i := #[.int .i64 o, .int .i64 d, .int .i64 n, .int .i64 0, .int .i64 a, .int .i64 c, .int .i64 i]) rfl (pc := pc) (r := r))
  simp only [List.getElem?_toArray, List.getElem?_cons_zero, List.getElem?_cons_succ] at hc1 hc3
  generalize hC : coA #[.int .i64 o, .int .i64 d, .int .i64 n, .int .i64 0, .int .i64 a, .int .i64 c, .int .i64 i] pc r = C at *
  have HB := Lib.hid (rowAt_new w C 76)
  clear hC
  have hw16 : IntKind.i64.wrap 0 = 0 := by rfl
  go_enter Try.func79, Try.ntmps79
  go_wp2_with fail
  have HBB : Hid (Below w.heap.size w (w.alloc (.cells C 76))) := Lib.hid ((Below.refl _ _).alloc (Nat.le_refl _) _)
  obtain ⟨b, hb⟩ : ∃ b, b = w.heap.size := ⟨_, rfl⟩
  rw [← hb] at HB
  have HN := Lib.hid hb
  rw [← hb]
  clear hb
  have hB := HB.out
  have ha : ∀ w', rowAt w' b = some C → (ldAt 76 (.pointer (some ⟨b, 0, none⟩))).run Try.prog w' = .ok (.agg C) w' := fun w' h => HM.out w' b h
  have hr : ∀ w', rowAt w' b = some C → (ldAt 25 (.pointer (some ⟨b, 8, none⟩))).run Try.prog w' = .ok (.agg r.arr) w' := fun w' h => HL.out w' b h
  have hf1 : ∀ w' : World, rowAt w' b = some C → w'.cell? ⟨b, 1, none⟩ = some (.int .i64 d) := fun w' h => (rowAt_cell h 1).trans hc1
  have hf3 : ∀ w' : World, rowAt w' b = some C → w'.cell? ⟨b, 3, none⟩ = some (.int .i64 0) := fun w' h => (rowAt_cell h 3).trans hc3
  generalize w.alloc (.cells C 76) = w1 at *
  go_region_held3 (fun w' => rowAt w' b = some C) (assumption) (first | (go_at_call 11; refine ((H1 _).out).mono ?_; rintro e w' ⟨rfl, hb1⟩; have hB1 := rowAt_below (by assumption) hb1 rfl; have HB1 := Lib.hid (below_step HBB.out hb1 rfl rfl rfl rfl); replace HBB := HB1; clear HB1 hb1) | (go_at_call 78; refine ((H2 _).out).mono ?_; rintro e w' ⟨rfl, hb2⟩; have hB2 := rowAt_below (by assumption) hb2 rfl; have HB2 := Lib.hid (below_step HBB.out hb2 rfl rfl rfl rfl); replace HBB := HB2; clear HB2 hb2))
  all_goals
    go_wp2
    go_ret
    exact ⟨rfl, HBB.out⟩
set_option maxRecDepth 100000 in
set_option maxHeartbeats 4000000 in
theorem keptg_1 (o d n a c i pc : Int) (r : Rg) (w : World) (i1 : 0 ≤ i) (i2 : i ≤ 65535) :
    Calls Try.prog 79 #[.agg (coA #[.int .i64 o, .int .i64 d, .int .i64 n, .int .i64 1, .int .i64 a, .int .i64 c, .int .i64 i] pc r)] w fun e w' => e = .returned (.int .u64 (bits .or .u64 (bits .andNot .u64 (r.get d) (IntKind.u64.wrap 4294901760)) (i * 65536))) ∧ Below w.heap.size w w' := by
  have H1 := fun w => Lib.hid ((get11 r d w))
  have H2 := fun w => Lib.hid ((moved_1 o d n a c i pc r w i1 i2))
  have hc1 := coA_lo (i := #[.int .i64 o, .int .i64 d, .int .i64 n, .int .i64 1, .int .i64 a, .int .i64 c, .int .i64 i]) rfl pc r 1 (by omega)
  have hc3 := coA_lo (i := #[.int .i64 o, .int .i64 d, .int .i64 n, .int .i64 1, .int .i64 a, .int .i64 c, .int .i64 i]) rfl pc r 3 (by omega)
  have HA := Lib.hid (coA_all (i := #[.int .i64 o, .int .i64 d, .int .i64 n, .int .i64 1, .int .i64 a, .int .i64 c, .int .i64 i]) rfl pc r)
  have HS := Lib.hid (coA_size (i := #[.int .i64 o, .int .i64 d, .int .i64 n, .int .i64 1, .int .i64 a, .int .i64 c, .int .i64 i]) rfl pc r)
  have HL := Lib.hid (fun w b => core_regs (w := w) (b := b) (i := #[.int .i64 o, .int .i64 d, .int .i64 n, .int .i64 1, .int .i64 a, .int .i64 c, .int .i64 i]) rfl (pc := pc) (r := r))
  have HM := Lib.hid (fun w b => core_all (w := w) (b := b) (i := #[.int .i64 o, .int .i64 d, .int .i64 n, .int .i64 1, .int .i64 a, .int .i64 c, .int .i64 i]) rfl (pc := pc) (r := r))
  simp only [List.getElem?_toArray, List.getElem?_cons_zero, List.getElem?_cons_succ] at hc1 hc3
  generalize hC : coA #[.int .i64 o, .int .i64 d, .int .i64 n, .int .i64 1, .int .i64 a, .int .i64 c, .int .i64 i] pc r = C at *
  have HB := Lib.hid (rowAt_new w C 76)
  clear hC
  have hw16 : IntKind.i64.wrap 16 = 16 := by rfl
  go_enter Try.func79, Try.ntmps79
  go_wp2_with fail
  have HBB : Hid (Below w.heap.size w (w.alloc (.cells C 76))) := Lib.hid ((Below.refl _ _).alloc (Nat.le_refl _) _)
  obtain ⟨b, hb⟩ : ∃ b, b = w.heap.size := ⟨_, rfl⟩
  rw [← hb] at HB
  have HN := Lib.hid hb
  rw [← hb]
  clear hb
  have hB := HB.out
  have ha : ∀ w', rowAt w' b = some C → (ldAt 76 (.pointer (some ⟨b, 0, none⟩))).run Try.prog w' = .ok (.agg C) w' := fun w' h => HM.out w' b h
  have hr : ∀ w', rowAt w' b = some C → (ldAt 25 (.pointer (some ⟨b, 8, none⟩))).run Try.prog w' = .ok (.agg r.arr) w' := fun w' h => HL.out w' b h
  have hf1 : ∀ w' : World, rowAt w' b = some C → w'.cell? ⟨b, 1, none⟩ = some (.int .i64 d) := fun w' h => (rowAt_cell h 1).trans hc1
  have hf3 : ∀ w' : World, rowAt w' b = some C → w'.cell? ⟨b, 3, none⟩ = some (.int .i64 1) := fun w' h => (rowAt_cell h 3).trans hc3
  generalize w.alloc (.cells C 76) = w1 at *
  go_region_held3 (fun w' => rowAt w' b = some C) (assumption) (first | (go_at_call 11; refine ((H1 _).out).mono ?_; rintro e w' ⟨rfl, hb1⟩; have hB1 := rowAt_below (by assumption) hb1 rfl; have HB1 := Lib.hid (below_step HBB.out hb1 rfl rfl rfl rfl); replace HBB := HB1; clear HB1 hb1) | (go_at_call 78; refine ((H2 _).out).mono ?_; rintro e w' ⟨rfl, hb2⟩; have hB2 := rowAt_below (by assumption) hb2 rfl; have HB2 := Lib.hid (below_step HBB.out hb2 rfl rfl rfl rfl); replace HBB := HB2; clear HB2 hb2))
  all_goals
    go_wp2
    go_ret
    exact ⟨rfl, HBB.out⟩
set_option maxRecDepth 100000 in
set_option maxHeartbeats 4000000 in
theorem keptg_2 (o d n a c i pc : Int) (r : Rg) (w : World) (i1 : 0 ≤ i) (i2 : i ≤ 65535) :
    Calls Try.prog 79 #[.agg (coA #[.int .i64 o, .int .i64 d, .int .i64 n, .int .i64 2, .int .i64 a, .int .i64 c, .int .i64 i] pc r)] w fun e w' => e = .returned (.int .u64 (bits .or .u64 (bits .andNot .u64 (r.get d) (IntKind.u64.wrap 281470681743360)) (i * 4294967296))) ∧ Below w.heap.size w w' := by
  have H1 := fun w => Lib.hid ((get11 r d w))
  have H2 := fun w => Lib.hid ((moved_2 o d n a c i pc r w i1 i2))
  have hc1 := coA_lo (i := #[.int .i64 o, .int .i64 d, .int .i64 n, .int .i64 2, .int .i64 a, .int .i64 c, .int .i64 i]) rfl pc r 1 (by omega)
  have hc3 := coA_lo (i := #[.int .i64 o, .int .i64 d, .int .i64 n, .int .i64 2, .int .i64 a, .int .i64 c, .int .i64 i]) rfl pc r 3 (by omega)
  have HA := Lib.hid (coA_all (i := #[.int .i64 o, .int .i64 d, .int .i64 n, .int .i64 2, .int .i64 a, .int .i64 c, .int .i64 i]) rfl pc r)
  have HS := Lib.hid (coA_size (i := #[.int .i64 o, .int .i64 d, .int .i64 n, .int .i64 2, .int .i64 a, .int .i64 c, .int .i64 i]) rfl pc r)
  have HL := Lib.hid (fun w b => core_regs (w := w) (b := b) (i := #[.int .i64 o, .int .i64 d, .int .i64 n, .int .i64 2, .int .i64 a, .int .i64 c, .int .i64 i]) rfl (pc := pc) (r := r))
  have HM := Lib.hid (fun w b => core_all (w := w) (b := b) (i := #[.int .i64 o, .int .i64 d, .int .i64 n, .int .i64 2, .int .i64 a, .int .i64 c, .int .i64 i]) rfl (pc := pc) (r := r))
  simp only [List.getElem?_toArray, List.getElem?_cons_zero, List.getElem?_cons_succ] at hc1 hc3
  generalize hC : coA #[.int .i64 o, .int .i64 d, .int .i64 n, .int .i64 2, .int .i64 a, .int .i64 c, .int .i64 i] pc r = C at *
  have HB := Lib.hid (rowAt_new w C 76)
  clear hC
  have hw16 : IntKind.i64.wrap 32 = 32 := by rfl
  go_enter Try.func79, Try.ntmps79
  go_wp2_with fail
  have HBB : Hid (Below w.heap.size w (w.alloc (.cells C 76))) := Lib.hid ((Below.refl _ _).alloc (Nat.le_refl _) _)
  obtain ⟨b, hb⟩ : ∃ b, b = w.heap.size := ⟨_, rfl⟩
  rw [← hb] at HB
  have HN := Lib.hid hb
  rw [← hb]
  clear hb
  have hB := HB.out
  have ha : ∀ w', rowAt w' b = some C → (ldAt 76 (.pointer (some ⟨b, 0, none⟩))).run Try.prog w' = .ok (.agg C) w' := fun w' h => HM.out w' b h
  have hr : ∀ w', rowAt w' b = some C → (ldAt 25 (.pointer (some ⟨b, 8, none⟩))).run Try.prog w' = .ok (.agg r.arr) w' := fun w' h => HL.out w' b h
  have hf1 : ∀ w' : World, rowAt w' b = some C → w'.cell? ⟨b, 1, none⟩ = some (.int .i64 d) := fun w' h => (rowAt_cell h 1).trans hc1
  have hf3 : ∀ w' : World, rowAt w' b = some C → w'.cell? ⟨b, 3, none⟩ = some (.int .i64 2) := fun w' h => (rowAt_cell h 3).trans hc3
  generalize w.alloc (.cells C 76) = w1 at *
  go_region_held3 (fun w' => rowAt w' b = some C) (assumption) (first | (go_at_call 11; refine ((H1 _).out).mono ?_; rintro e w' ⟨rfl, hb1⟩; have hB1 := rowAt_below (by assumption) hb1 rfl; have HB1 := Lib.hid (below_step HBB.out hb1 rfl rfl rfl rfl); replace HBB := HB1; clear HB1 hb1) | (go_at_call 78; refine ((H2 _).out).mono ?_; rintro e w' ⟨rfl, hb2⟩; have hB2 := rowAt_below (by assumption) hb2 rfl; have HB2 := Lib.hid (below_step HBB.out hb2 rfl rfl rfl rfl); replace HBB := HB2; clear HB2 hb2))
  all_goals
    go_wp2
    go_ret
    exact ⟨rfl, HBB.out⟩
set_option maxRecDepth 100000 in
set_option maxHeartbeats 4000000 in
theorem keptg_3 (o d n a c i pc : Int) (r : Rg) (w : World) (i1 : 0 ≤ i) (i2 : i ≤ 65535) :
    Calls Try.prog 79 #[.agg (coA #[.int .i64 o, .int .i64 d, .int .i64 n, .int .i64 3, .int .i64 a, .int .i64 c, .int .i64 i] pc r)] w fun e w' => e = .returned (.int .u64 (bits .or .u64 (bits .andNot .u64 (r.get d) (IntKind.u64.wrap 18446462598732840960)) (i * 281474976710656))) ∧ Below w.heap.size w w' := by
  have H1 := fun w => Lib.hid ((get11 r d w))
  have H2 := fun w => Lib.hid ((moved_3 o d n a c i pc r w i1 i2))
  have hc1 := coA_lo (i := #[.int .i64 o, .int .i64 d, .int .i64 n, .int .i64 3, .int .i64 a, .int .i64 c, .int .i64 i]) rfl pc r 1 (by omega)
  have hc3 := coA_lo (i := #[.int .i64 o, .int .i64 d, .int .i64 n, .int .i64 3, .int .i64 a, .int .i64 c, .int .i64 i]) rfl pc r 3 (by omega)
  have HA := Lib.hid (coA_all (i := #[.int .i64 o, .int .i64 d, .int .i64 n, .int .i64 3, .int .i64 a, .int .i64 c, .int .i64 i]) rfl pc r)
  have HS := Lib.hid (coA_size (i := #[.int .i64 o, .int .i64 d, .int .i64 n, .int .i64 3, .int .i64 a, .int .i64 c, .int .i64 i]) rfl pc r)
  have HL := Lib.hid (fun w b => core_regs (w := w) (b := b) (i := #[.int .i64 o, .int .i64 d, .int .i64 n, .int .i64 3, .int .i64 a, .int .i64 c, .int .i64 i]) rfl (pc := pc) (r := r))
  have HM := Lib.hid (fun w b => core_all (w := w) (b := b) (i := #[.int .i64 o, .int .i64 d, .int .i64 n, .int .i64 3, .int .i64 a, .int .i64 c, .int .i64 i]) rfl (pc := pc) (r := r))
  simp only [List.getElem?_toArray, List.getElem?_cons_zero, List.getElem?_cons_succ] at hc1 hc3
  generalize hC : coA #[.int .i64 o, .int .i64 d, .int .i64 n, .int .i64 3, .int .i64 a, .int .i64 c, .int .i64 i] pc r = C at *
  have HB := Lib.hid (rowAt_new w C 76)
  clear hC
  have hw16 : IntKind.i64.wrap 48 = 48 := by rfl
  go_enter Try.func79, Try.ntmps79
  go_wp2_with fail
  have HBB : Hid (Below w.heap.size w (w.alloc (.cells C 76))) := Lib.hid ((Below.refl _ _).alloc (Nat.le_refl _) _)
  obtain ⟨b, hb⟩ : ∃ b, b = w.heap.size := ⟨_, rfl⟩
  rw [← hb] at HB
  have HN := Lib.hid hb
  rw [← hb]
  clear hb
  have hB := HB.out
  have ha : ∀ w', rowAt w' b = some C → (ldAt 76 (.pointer (some ⟨b, 0, none⟩))).run Try.prog w' = .ok (.agg C) w' := fun w' h => HM.out w' b h
  have hr : ∀ w', rowAt w' b = some C → (ldAt 25 (.pointer (some ⟨b, 8, none⟩))).run Try.prog w' = .ok (.agg r.arr) w' := fun w' h => HL.out w' b h
  have hf1 : ∀ w' : World, rowAt w' b = some C → w'.cell? ⟨b, 1, none⟩ = some (.int .i64 d) := fun w' h => (rowAt_cell h 1).trans hc1
  have hf3 : ∀ w' : World, rowAt w' b = some C → w'.cell? ⟨b, 3, none⟩ = some (.int .i64 3) := fun w' h => (rowAt_cell h 3).trans hc3
  generalize w.alloc (.cells C 76) = w1 at *
  go_region_held3 (fun w' => rowAt w' b = some C) (assumption) (first | (go_at_call 11; refine ((H1 _).out).mono ?_; rintro e w' ⟨rfl, hb1⟩; have hB1 := rowAt_below (by assumption) hb1 rfl; have HB1 := Lib.hid (below_step HBB.out hb1 rfl rfl rfl rfl); replace HBB := HB1; clear HB1 hb1) | (go_at_call 78; refine ((H2 _).out).mono ?_; rintro e w' ⟨rfl, hb2⟩; have hB2 := rowAt_below (by assumption) hb2 rfl; have HB2 := Lib.hid (below_step HBB.out hb2 rfl rfl rfl rfl); replace HBB := HB2; clear HB2 hb2))
  all_goals
    go_wp2
    go_ret
    exact ⟨rfl, HBB.out⟩
set_option maxRecDepth 100000 in
set_option maxHeartbeats 4000000 in
theorem farif_75 (bb : Bool) (o d n m a c i pc : Int) (r : Rg) (w : World) (x : Int) (hx : (if bb then IntKind.u64.wrap (pc + IntKind.u64.wrap i) else IntKind.u64.wrap (pc + 4)) = x)
    (hf : ∀ w, Calls Try.prog 75 #[.agg (coA #[.int .i64 o, .int .i64 d, .int .i64 n, .int .i64 m, .int .i64 a, .int .i64 c, .int .i64 i] pc r)] w fun e w' => e = .returned (.bool bb) ∧ Below w.heap.size w w') :
    Calls Try.prog 74 #[.agg (coA #[.int .i64 o, .int .i64 d, .int .i64 n, .int .i64 m, .int .i64 a, .int .i64 c, .int .i64 i] pc r), .func (.func 75) #[.agg (coA #[.int .i64 o, .int .i64 d, .int .i64 n, .int .i64 m, .int .i64 a, .int .i64 c, .int .i64 i] pc r)] #[]] w fun e w' => e = .returned (.int .u64 (x)) ∧ Below w.heap.size w w' := by
  have H0 := fun w => Lib.hid (hf w)
  have H1 := fun w => Lib.hid (far_c o d n m a c i pc r w)
  have hc7 := coA_pc (i := #[.int .i64 o, .int .i64 d, .int .i64 n, .int .i64 m, .int .i64 a, .int .i64 c, .int .i64 i]) rfl pc r
  clear hf
  have HA := Lib.hid (coA_all (i := #[.int .i64 o, .int .i64 d, .int .i64 n, .int .i64 m, .int .i64 a, .int .i64 c, .int .i64 i]) rfl pc r)
  have HS := Lib.hid (coA_size (i := #[.int .i64 o, .int .i64 d, .int .i64 n, .int .i64 m, .int .i64 a, .int .i64 c, .int .i64 i]) rfl pc r)
  have HL := Lib.hid (fun w b => core_regs (w := w) (b := b) (i := #[.int .i64 o, .int .i64 d, .int .i64 n, .int .i64 m, .int .i64 a, .int .i64 c, .int .i64 i]) rfl (pc := pc) (r := r))
  have HM := Lib.hid (fun w b => core_all (w := w) (b := b) (i := #[.int .i64 o, .int .i64 d, .int .i64 n, .int .i64 m, .int .i64 a, .int .i64 c, .int .i64 i]) rfl (pc := pc) (r := r))
  generalize hC : coA #[.int .i64 o, .int .i64 d, .int .i64 n, .int .i64 m, .int .i64 a, .int .i64 c, .int .i64 i] pc r = C at *
  have HB := Lib.hid (rowAt_new w C 76)
  clear hC
  go_enter Try.func74, Try.ntmps74
  go_wp2_with (fail)
  refine (H0 _).out.mono ?_
  rintro e w2 ⟨rfl, hb⟩
  have HB2 := Lib.hid (((Below.refl _ _).alloc (Nat.le_refl _) (.cells C 76)).trans (hb.mono (by simp)))
  have hr2 := Lib.hid (rowAt_below HB.out hb rfl)
  have k7 := (rowAt_cell hr2.out 7).trans hc7
  clear hb
  cases bb
  · subst hx
    go_wp2
    go_ret
    exact ⟨rfl, HB2.out⟩
  · subst hx
    go_wp2_with (first | (refine wpl_load rfl 76 _ rfl w.heap.size 0 rfl C (HM.out _ _ hr2.out) ?_))
    refine (H1 _).out.mono ?_
    rintro e w3 ⟨rfl, hb3⟩
    have HB3 := Lib.hid (HB2.out.trans (hb3.mono HB2.out.size))
    clear hb3
    go_wp2
    go_ret
    exact ⟨rfl, HB3.out⟩
set_option maxRecDepth 100000 in
set_option maxHeartbeats 4000000 in
theorem farif_76 (bb : Bool) (o d n m a c i pc : Int) (r : Rg) (w : World) (x : Int) (hx : (if bb then IntKind.u64.wrap (pc + IntKind.u64.wrap i) else IntKind.u64.wrap (pc + 4)) = x)
    (hf : ∀ w, Calls Try.prog 76 #[.agg (coA #[.int .i64 o, .int .i64 d, .int .i64 n, .int .i64 m, .int .i64 a, .int .i64 c, .int .i64 i] pc r)] w fun e w' => e = .returned (.bool bb) ∧ Below w.heap.size w w') :
    Calls Try.prog 74 #[.agg (coA #[.int .i64 o, .int .i64 d, .int .i64 n, .int .i64 m, .int .i64 a, .int .i64 c, .int .i64 i] pc r), .func (.func 76) #[.agg (coA #[.int .i64 o, .int .i64 d, .int .i64 n, .int .i64 m, .int .i64 a, .int .i64 c, .int .i64 i] pc r)] #[]] w fun e w' => e = .returned (.int .u64 (x)) ∧ Below w.heap.size w w' := by
  have H0 := fun w => Lib.hid (hf w)
  have H1 := fun w => Lib.hid (far_c o d n m a c i pc r w)
  have hc7 := coA_pc (i := #[.int .i64 o, .int .i64 d, .int .i64 n, .int .i64 m, .int .i64 a, .int .i64 c, .int .i64 i]) rfl pc r
  clear hf
  have HA := Lib.hid (coA_all (i := #[.int .i64 o, .int .i64 d, .int .i64 n, .int .i64 m, .int .i64 a, .int .i64 c, .int .i64 i]) rfl pc r)
  have HS := Lib.hid (coA_size (i := #[.int .i64 o, .int .i64 d, .int .i64 n, .int .i64 m, .int .i64 a, .int .i64 c, .int .i64 i]) rfl pc r)
  have HL := Lib.hid (fun w b => core_regs (w := w) (b := b) (i := #[.int .i64 o, .int .i64 d, .int .i64 n, .int .i64 m, .int .i64 a, .int .i64 c, .int .i64 i]) rfl (pc := pc) (r := r))
  have HM := Lib.hid (fun w b => core_all (w := w) (b := b) (i := #[.int .i64 o, .int .i64 d, .int .i64 n, .int .i64 m, .int .i64 a, .int .i64 c, .int .i64 i]) rfl (pc := pc) (r := r))
  generalize hC : coA #[.int .i64 o, .int .i64 d, .int .i64 n, .int .i64 m, .int .i64 a, .int .i64 c, .int .i64 i] pc r = C at *
  have HB := Lib.hid (rowAt_new w C 76)
  clear hC
  go_enter Try.func74, Try.ntmps74
  go_wp2_with (fail)
  refine (H0 _).out.mono ?_
  rintro e w2 ⟨rfl, hb⟩
  have HB2 := Lib.hid (((Below.refl _ _).alloc (Nat.le_refl _) (.cells C 76)).trans (hb.mono (by simp)))
  have hr2 := Lib.hid (rowAt_below HB.out hb rfl)
  have k7 := (rowAt_cell hr2.out 7).trans hc7
  clear hb
  cases bb
  · subst hx
    go_wp2
    go_ret
    exact ⟨rfl, HB2.out⟩
  · subst hx
    go_wp2_with (first | (refine wpl_load rfl 76 _ rfl w.heap.size 0 rfl C (HM.out _ _ hr2.out) ?_))
    refine (H1 _).out.mono ?_
    rintro e w3 ⟨rfl, hb3⟩
    have HB3 := Lib.hid (HB2.out.trans (hb3.mono HB2.out.size))
    clear hb3
    go_wp2
    go_ret
    exact ⟨rfl, HB3.out⟩
set_option maxRecDepth 100000 in
set_option maxHeartbeats 4000000 in
theorem farif_77 (bb : Bool) (o d n m a c i pc : Int) (r : Rg) (w : World) (x : Int) (hx : (if bb then IntKind.u64.wrap (pc + IntKind.u64.wrap i) else IntKind.u64.wrap (pc + 4)) = x)
    (hf : ∀ w, Calls Try.prog 77 #[.agg (coA #[.int .i64 o, .int .i64 d, .int .i64 n, .int .i64 m, .int .i64 a, .int .i64 c, .int .i64 i] pc r)] w fun e w' => e = .returned (.bool bb) ∧ Below w.heap.size w w') :
    Calls Try.prog 74 #[.agg (coA #[.int .i64 o, .int .i64 d, .int .i64 n, .int .i64 m, .int .i64 a, .int .i64 c, .int .i64 i] pc r), .func (.func 77) #[.agg (coA #[.int .i64 o, .int .i64 d, .int .i64 n, .int .i64 m, .int .i64 a, .int .i64 c, .int .i64 i] pc r)] #[]] w fun e w' => e = .returned (.int .u64 (x)) ∧ Below w.heap.size w w' := by
  have H0 := fun w => Lib.hid (hf w)
  have H1 := fun w => Lib.hid (far_c o d n m a c i pc r w)
  have hc7 := coA_pc (i := #[.int .i64 o, .int .i64 d, .int .i64 n, .int .i64 m, .int .i64 a, .int .i64 c, .int .i64 i]) rfl pc r
  clear hf
  have HA := Lib.hid (coA_all (i := #[.int .i64 o, .int .i64 d, .int .i64 n, .int .i64 m, .int .i64 a, .int .i64 c, .int .i64 i]) rfl pc r)
  have HS := Lib.hid (coA_size (i := #[.int .i64 o, .int .i64 d, .int .i64 n, .int .i64 m, .int .i64 a, .int .i64 c, .int .i64 i]) rfl pc r)
  have HL := Lib.hid (fun w b => core_regs (w := w) (b := b) (i := #[.int .i64 o, .int .i64 d, .int .i64 n, .int .i64 m, .int .i64 a, .int .i64 c, .int .i64 i]) rfl (pc := pc) (r := r))
  have HM := Lib.hid (fun w b => core_all (w := w) (b := b) (i := #[.int .i64 o, .int .i64 d, .int .i64 n, .int .i64 m, .int .i64 a, .int .i64 c, .int .i64 i]) rfl (pc := pc) (r := r))
  generalize hC : coA #[.int .i64 o, .int .i64 d, .int .i64 n, .int .i64 m, .int .i64 a, .int .i64 c, .int .i64 i] pc r = C at *
  have HB := Lib.hid (rowAt_new w C 76)
  clear hC
  go_enter Try.func74, Try.ntmps74
  go_wp2_with (fail)
  refine (H0 _).out.mono ?_
  rintro e w2 ⟨rfl, hb⟩
  have HB2 := Lib.hid (((Below.refl _ _).alloc (Nat.le_refl _) (.cells C 76)).trans (hb.mono (by simp)))
  have hr2 := Lib.hid (rowAt_below HB.out hb rfl)
  have k7 := (rowAt_cell hr2.out 7).trans hc7
  clear hb
  cases bb
  · subst hx
    go_wp2
    go_ret
    exact ⟨rfl, HB2.out⟩
  · subst hx
    go_wp2_with (first | (refine wpl_load rfl 76 _ rfl w.heap.size 0 rfl C (HM.out _ _ hr2.out) ?_))
    refine (H1 _).out.mono ?_
    rintro e w3 ⟨rfl, hb3⟩
    have HB3 := Lib.hid (HB2.out.trans (hb3.mono HB2.out.size))
    clear hb3
    go_wp2
    go_ret
    exact ⟨rfl, HB3.out⟩
set_option maxRecDepth 100000 in
set_option maxHeartbeats 4000000 in
theorem ifholds_c (o d n m a c i pc : Int) (r : Rg) (w : World) :
    Calls Try.prog 61 #[.agg (coA #[.int .i64 o, .int .i64 d, .int .i64 n, .int .i64 m, .int .i64 a, .int .i64 c, .int .i64 i] pc r)] w fun e w' => e = .returned (.int .u64 (if r.hold c then IntKind.u64.wrap (pc + IntKind.u64.wrap i) else IntKind.u64.wrap (pc + 4))) ∧ Below w.heap.size w w' := by
  obtain ⟨x, hx⟩ : ∃ x, (if r.hold c then IntKind.u64.wrap (pc + IntKind.u64.wrap i) else IntKind.u64.wrap (pc + 4)) = x := ⟨_, rfl⟩
  rw [hx]
  have H1 := fun w => Lib.hid (farif_75 (r.hold c) o d n m a c i pc r w x hx (fun w => holds_c o d n m a c i pc r w))
  clear hx
  have HA := Lib.hid (coA_all (i := #[.int .i64 o, .int .i64 d, .int .i64 n, .int .i64 m, .int .i64 a, .int .i64 c, .int .i64 i]) rfl pc r)
  have HS := Lib.hid (coA_size (i := #[.int .i64 o, .int .i64 d, .int .i64 n, .int .i64 m, .int .i64 a, .int .i64 c, .int .i64 i]) rfl pc r)
  have HL := Lib.hid (fun w b => core_regs (w := w) (b := b) (i := #[.int .i64 o, .int .i64 d, .int .i64 n, .int .i64 m, .int .i64 a, .int .i64 c, .int .i64 i]) rfl (pc := pc) (r := r))
  have HM := Lib.hid (fun w b => core_all (w := w) (b := b) (i := #[.int .i64 o, .int .i64 d, .int .i64 n, .int .i64 m, .int .i64 a, .int .i64 c, .int .i64 i]) rfl (pc := pc) (r := r))
  generalize hC : coA #[.int .i64 o, .int .i64 d, .int .i64 n, .int .i64 m, .int .i64 a, .int .i64 c, .int .i64 i] pc r = C at *
  have HB := Lib.hid (rowAt_new w C 76)
  clear hC
  go_enter Try.func61, Try.ntmps61
  go_wp2_with (first | (refine wpl_load rfl 76 _ rfl w.heap.size 0 rfl C (HM.out _ _ HB.out) ?_))
  refine (H1 _).out.mono ?_
  rintro e w2 ⟨rfl, hb⟩
  have HB2 := Lib.hid (((Below.refl _ _).alloc (Nat.le_refl _) (.cells C 76)).trans (hb.mono (by simp)))
  clear hb
  go_wp2
  go_ret
  exact ⟨rfl, HB2.out⟩
set_option maxRecDepth 100000 in
set_option maxHeartbeats 4000000 in
theorem ifzero_c (o d n m a c i pc : Int) (r : Rg) (w : World) :
    Calls Try.prog 62 #[.agg (coA #[.int .i64 o, .int .i64 d, .int .i64 n, .int .i64 m, .int .i64 a, .int .i64 c, .int .i64 i] pc r)] w fun e w' => e = .returned (.int .u64 (if r.get d == 0 then IntKind.u64.wrap (pc + IntKind.u64.wrap i) else IntKind.u64.wrap (pc + 4))) ∧ Below w.heap.size w w' := by
  obtain ⟨x, hx⟩ : ∃ x, (if r.get d == 0 then IntKind.u64.wrap (pc + IntKind.u64.wrap i) else IntKind.u64.wrap (pc + 4)) = x := ⟨_, rfl⟩
  rw [hx]
  have H1 := fun w => Lib.hid (farif_76 (r.get d == 0) o d n m a c i pc r w x hx (fun w => zero_c o d n m a c i pc r w))
  clear hx
  have HA := Lib.hid (coA_all (i := #[.int .i64 o, .int .i64 d, .int .i64 n, .int .i64 m, .int .i64 a, .int .i64 c, .int .i64 i]) rfl pc r)
  have HS := Lib.hid (coA_size (i := #[.int .i64 o, .int .i64 d, .int .i64 n, .int .i64 m, .int .i64 a, .int .i64 c, .int .i64 i]) rfl pc r)
  have HL := Lib.hid (fun w b => core_regs (w := w) (b := b) (i := #[.int .i64 o, .int .i64 d, .int .i64 n, .int .i64 m, .int .i64 a, .int .i64 c, .int .i64 i]) rfl (pc := pc) (r := r))
  have HM := Lib.hid (fun w b => core_all (w := w) (b := b) (i := #[.int .i64 o, .int .i64 d, .int .i64 n, .int .i64 m, .int .i64 a, .int .i64 c, .int .i64 i]) rfl (pc := pc) (r := r))
  generalize hC : coA #[.int .i64 o, .int .i64 d, .int .i64 n, .int .i64 m, .int .i64 a, .int .i64 c, .int .i64 i] pc r = C at *
  have HB := Lib.hid (rowAt_new w C 76)
  clear hC
  go_enter Try.func62, Try.ntmps62
  go_wp2_with (first | (refine wpl_load rfl 76 _ rfl w.heap.size 0 rfl C (HM.out _ _ HB.out) ?_))
  refine (H1 _).out.mono ?_
  rintro e w2 ⟨rfl, hb⟩
  have HB2 := Lib.hid (((Below.refl _ _).alloc (Nat.le_refl _) (.cells C 76)).trans (hb.mono (by simp)))
  clear hb
  go_wp2
  go_ret
  exact ⟨rfl, HB2.out⟩
set_option maxRecDepth 100000 in
set_option maxHeartbeats 4000000 in
theorem ifnzero_c (o d n m a c i pc : Int) (r : Rg) (w : World) :
    Calls Try.prog 63 #[.agg (coA #[.int .i64 o, .int .i64 d, .int .i64 n, .int .i64 m, .int .i64 a, .int .i64 c, .int .i64 i] pc r)] w fun e w' => e = .returned (.int .u64 (if r.get d != 0 then IntKind.u64.wrap (pc + IntKind.u64.wrap i) else IntKind.u64.wrap (pc + 4))) ∧ Below w.heap.size w w' := by
  obtain ⟨x, hx⟩ : ∃ x, (if r.get d != 0 then IntKind.u64.wrap (pc + IntKind.u64.wrap i) else IntKind.u64.wrap (pc + 4)) = x := ⟨_, rfl⟩
  rw [hx]
  have H1 := fun w => Lib.hid (farif_77 (r.get d != 0) o d n m a c i pc r w x hx (fun w => nzero_c o d n m a c i pc r w))
  clear hx
  have HA := Lib.hid (coA_all (i := #[.int .i64 o, .int .i64 d, .int .i64 n, .int .i64 m, .int .i64 a, .int .i64 c, .int .i64 i]) rfl pc r)
  have HS := Lib.hid (coA_size (i := #[.int .i64 o, .int .i64 d, .int .i64 n, .int .i64 m, .int .i64 a, .int .i64 c, .int .i64 i]) rfl pc r)
  have HL := Lib.hid (fun w b => core_regs (w := w) (b := b) (i := #[.int .i64 o, .int .i64 d, .int .i64 n, .int .i64 m, .int .i64 a, .int .i64 c, .int .i64 i]) rfl (pc := pc) (r := r))
  have HM := Lib.hid (fun w b => core_all (w := w) (b := b) (i := #[.int .i64 o, .int .i64 d, .int .i64 n, .int .i64 m, .int .i64 a, .int .i64 c, .int .i64 i]) rfl (pc := pc) (r := r))
  generalize hC : coA #[.int .i64 o, .int .i64 d, .int .i64 n, .int .i64 m, .int .i64 a, .int .i64 c, .int .i64 i] pc r = C at *
  have HB := Lib.hid (rowAt_new w C 76)
  clear hC
  go_enter Try.func63, Try.ntmps63
  go_wp2_with (first | (refine wpl_load rfl 76 _ rfl w.heap.size 0 rfl C (HM.out _ _ HB.out) ?_))
  refine (H1 _).out.mono ?_
  rintro e w2 ⟨rfl, hb⟩
  have HB2 := Lib.hid (((Below.refl _ _).alloc (Nat.le_refl _) (.cells C 76)).trans (hb.mono (by simp)))
  clear hb
  go_wp2
  go_ret
  exact ⟨rfl, HB2.out⟩
set_option maxRecDepth 100000 in
set_option maxHeartbeats 4000000 in
theorem subtract_x (o d n m a c i pc v x : Int) (r : Rg) (su : Int) (fn fz fc fv : Bool) (w : World) (h1 : ∀ w, Calls Try.prog 64 #[.agg (coA #[.int .i64 o, .int .i64 d, .int .i64 n, .int .i64 m, .int .i64 a, .int .i64 c, .int .i64 i] pc r)] w fun e w' => e = .returned (.int .u64 (x)) ∧ Below w.heap.size w w') (v1 : 0 ≤ v) (v2 : v < 18446744073709551616) (x1 : 0 ≤ x) (x2 : x < 18446744073709551616) (HA1 : Hid (addS x (notU v) 1 = .tuple #[.int .u64 su, .bool fn, .bool fz, .bool fc, .bool fv])) :
    Calls Try.prog 43 #[.agg (coA #[.int .i64 o, .int .i64 d, .int .i64 n, .int .i64 m, .int .i64 a, .int .i64 c, .int .i64 i] pc r), .int .u64 v] w fun e w' => e = .returned (.agg (((r.flags fn fz fc fv).set d su).arr)) ∧ Below w.heap.size w w' := by
  have H1 := fun w => Lib.hid (h1 w)
  clear h1
  have hc1 := coA_lo (i := #[.int .i64 o, .int .i64 d, .int .i64 n, .int .i64 m, .int .i64 a, .int .i64 c, .int .i64 i]) rfl pc r 1 (by omega)
  have HA := Lib.hid (coA_all (i := #[.int .i64 o, .int .i64 d, .int .i64 n, .int .i64 m, .int .i64 a, .int .i64 c, .int .i64 i]) rfl pc r)
  have HS := Lib.hid (coA_size (i := #[.int .i64 o, .int .i64 d, .int .i64 n, .int .i64 m, .int .i64 a, .int .i64 c, .int .i64 i]) rfl pc r)
  have HL := Lib.hid (fun w b => core_regs (w := w) (b := b) (i := #[.int .i64 o, .int .i64 d, .int .i64 n, .int .i64 m, .int .i64 a, .int .i64 c, .int .i64 i]) rfl (pc := pc) (r := r))
  have HM := Lib.hid (fun w b => core_all (w := w) (b := b) (i := #[.int .i64 o, .int .i64 d, .int .i64 n, .int .i64 m, .int .i64 a, .int .i64 c, .int .i64 i]) rfl (pc := pc) (r := r))
  simp only [List.getElem?_toArray, List.getElem?_cons_zero, List.getElem?_cons_succ] at hc1
  generalize hC : coA #[.int .i64 o, .int .i64 d, .int .i64 n, .int .i64 m, .int .i64 a, .int .i64 c, .int .i64 i] pc r = C at *
  have HB := Lib.hid (rowAt_new w C 76)
  clear hC
  have HB2 := Lib.hid (rowAt_past HB.out (.cells z36 25))
  have HB3 := Lib.hid (rowAt_past HB2.out (.cells z36 25))
  have HZ : Hid (rowAt (((w.alloc (.cells C 76)).alloc (.cells z36 25)).alloc (.cells z36 25)) (w.heap.size + 2) = some z36) := Lib.hid (by have := rowAt_new ((w.alloc (.cells C 76)).alloc (.cells z36 25)) z36 25; simpa using this)
  have HZ4 : Hid (rowAt (((w.alloc (.cells C 76)).alloc (.cells z36 25)).alloc (.cells z36 25)) (w.heap.size + 1) = some z36) := Lib.hid (by have := rowAt_past (rowAt_new (w.alloc (.cells C 76)) z36 25) (.cells z36 25); simpa using this)
  have HBB : Hid (Below w.heap.size w (((w.alloc (.cells C 76)).alloc (.cells z36 25)).alloc (.cells z36 25))) := Lib.hid ((((Below.refl _ _).alloc (Nat.le_refl _) _).alloc (by simp) _).alloc (by simp; omega) _)
  go_enter Try.func43, Try.ntmps43
  go_wp2_with (first | (refine wpl_load rfl 25 _ rfl w.heap.size 8 rfl r.arr (HL.out _ _ HB2.out) ?_) | (refine wpl_store rfl 25 _ _ rfl (w.heap.size + 2) r.arr z36 rfl rfl HZ.out (by rw [Rg.size]; exact info25) (by rw [Rg.size]; rfl) (Rg.one _) ?_; intro w2 hrow2 hg2; have HR2 := Lib.hid hrow2; have HC2 := Lib.hid (rowAt_grown HB3.out hg2 (by omega)); have HZ2 := Lib.hid (rowAt_grown HZ4.out hg2 (by omega)); have HBB2 := Lib.hid (grown_below HBB.out hg2 (by omega)); clear hrow2 hg2) | (refine wpl_load rfl 76 _ rfl w.heap.size 0 rfl C (HM.out _ _ HC2.out) ?_) | (go_at_call 64; refine ((H1 _).out).mono ?_; rintro e w3 ⟨rfl, hb3⟩; have HR3 := Lib.hid (rowAt_below HR2.out hb3 rfl); have HC3 := Lib.hid (rowAt_below HC2.out hb3 rfl); have HZ3 := Lib.hid (rowAt_below HZ2.out hb3 rfl); have HBB3 := Lib.hid (HBB2.out.trans (hb3.mono HBB2.out.size)); clear hb3))
  rw [show bits .xor .u64 IntKind.u64.max v = notU v from xor_max v v1 v2]
  refine (add1_c x (notU v) _ x1 x2 (by unfold notU; omega) (by unfold notU; omega)).mono ?_
  rintro e w' ⟨rfl, rfl⟩
  rw [HA1.out]
  have e2 := (rowAt_cell HR3.out 32).trans r.at32
  have e3 := (rowAt_cell HR3.out 33).trans r.at33
  have e4 := (rowAt_cell HR3.out 34).trans r.at34
  have e5 := (rowAt_cell HR3.out 35).trans r.at35
  have q2 := rowAt_frz HR3.out 32
  have q3 := rowAt_frz HR3.out 33
  have q4 := rowAt_frz HR3.out 34
  have q5 := rowAt_frz HR3.out 35
  obtain ⟨g, hg⟩ : ∃ g, g = w.heap.size + 2 := ⟨_, rfl⟩
  have hg' : w.heap.size + 1 + 1 = g := by omega
  rw [hg']
  rw [← hg] at e2 e3 e4 e5 q2 q3 q4 q5 HR3
  have HF : Hid (rowAt ((((w3.setCell ⟨g, 32, none⟩ (.bool fn)).setCell ⟨g, 33, none⟩ (.bool fz)).setCell ⟨g, 34, none⟩ (.bool fc)).setCell ⟨g, 35, none⟩ (.bool fv)) g = some (r.flags fn fz fc fv).arr) := Lib.hid (by rw [← r.flags_arr]; exact rowAt_set (rowAt_set (rowAt_set (rowAt_set HR3.out _ _) _ _) _ _) _ _)
  have hgb : w.heap.size ≠ g := by omega
  have hgb4 : w.heap.size + 1 ≠ g := by omega
  have hgn : w.heap.size ≤ g := by omega
  have HCF : Hid (rowAt ((((w3.setCell ⟨g, 32, none⟩ (.bool fn)).setCell ⟨g, 33, none⟩ (.bool fz)).setCell ⟨g, 34, none⟩ (.bool fc)).setCell ⟨g, 35, none⟩ (.bool fv)) w.heap.size = some C) := Lib.hid (rowAt_set_far (rowAt_set_far (rowAt_set_far (rowAt_set_far HC3.out hgb _ _) hgb _ _) hgb _ _) hgb _ _)
  have HZF : Hid (rowAt ((((w3.setCell ⟨g, 32, none⟩ (.bool fn)).setCell ⟨g, 33, none⟩ (.bool fz)).setCell ⟨g, 34, none⟩ (.bool fc)).setCell ⟨g, 35, none⟩ (.bool fv)) (w.heap.size + 1) = some z36) := Lib.hid (rowAt_set_far (rowAt_set_far (rowAt_set_far (rowAt_set_far HZ3.out hgb4 _ _) hgb4 _ _) hgb4 _ _) hgb4 _ _)
  have HBF : Hid (Below w.heap.size w ((((w3.setCell ⟨g, 32, none⟩ (.bool fn)).setCell ⟨g, 33, none⟩ (.bool fz)).setCell ⟨g, 34, none⟩ (.bool fc)).setCell ⟨g, 35, none⟩ (.bool fv))) := Lib.hid ((((HBB3.out.setCell (p := ⟨g, _, none⟩) hgn _).setCell (p := ⟨g, _, none⟩) hgn _).setCell (p := ⟨g, _, none⟩) hgn _).setCell (p := ⟨g, _, none⟩) hgn _)
  have hd := (rowAt_cell HCF.out 1).trans hc1
  clear hg hg' HR3 HC3 HZ3 HBB3
  go_wp2_with fail
  generalize ((((w3.setCell ⟨g, 32, none⟩ (.bool fn)).setCell ⟨g, 33, none⟩ (.bool fz)).setCell ⟨g, 34, none⟩ (.bool fc)).setCell ⟨g, 35, none⟩ (.bool fv)) = w4 at *
  have hl : (ldAt 25 (.pointer (some ⟨g, 0, none⟩))).run Try.prog w4 = .ok (.agg (r.flags fn fz fc fv).arr) w4 := reg_all HF.out
  clear e2 e3 e4 e5 q2 q3 q4 q5
  rw [hl]
  simp only [Result.andThen_ok]
  clear hl
  go_wp2_with (first | (go_at_call 13; refine (set13 (r.flags fn fz fc fv) d su _).mono ?_; rintro e w5 ⟨rfl, hb5⟩; have HZ5 := Lib.hid (rowAt_below HZF.out hb5 rfl); have HB5 := Lib.hid (HBF.out.trans (hb5.mono HBF.out.size)); clear hb5) | (refine wpl_store rfl 25 _ _ rfl (w.heap.size + 1) ((r.flags fn fz fc fv).set d su).arr z36 rfl rfl HZ5.out (by rw [Rg.size]; exact info25) (by rw [Rg.size]; rfl) (Rg.one _) ?_; intro w6 hrow6 hg6; have HR6 := Lib.hid hrow6; have HB6 := Lib.hid (grown_below HB5.out hg6 (by omega)); clear hrow6 hg6))
  obtain ⟨t6, ht6⟩ := rowAt_heap HR6.out
  refine bodyPost_ret (results_cell_row rfl _ _ (w.heap.size + 1) t6 ((r.flags fn fz fc fv).set d su).arr (0, 0) _ rfl ht6 Try.underlying25 rfl (by rw [Rg.size]; exact info25)) rfl ⟨rfl, HB6.out⟩
theorem subtract_y (o d n m a c i pc v x : Int) (r : Rg) (w : World) (h1 : ∀ w, Calls Try.prog 64 #[.agg (coA #[.int .i64 o, .int .i64 d, .int .i64 n, .int .i64 m, .int .i64 a, .int .i64 c, .int .i64 i] pc r)] w fun e w' => e = .returned (.int .u64 (x)) ∧ Below w.heap.size w w') (v1 : 0 ≤ v) (v2 : v < 18446744073709551616) (x1 : 0 ≤ x) (x2 : x < 18446744073709551616) :
    Calls Try.prog 43 #[.agg (coA #[.int .i64 o, .int .i64 d, .int .i64 n, .int .i64 m, .int .i64 a, .int .i64 c, .int .i64 i] pc r), .int .u64 v] w fun e w' => e = .returned (.agg (r.less x v d).arr) ∧ Below w.heap.size w w' :=
  subtract_x o d n m a c i pc v x r _ _ _ _ _ w h1 v1 v2 x1 x2 (Lib.hid rfl)
set_option maxRecDepth 100000 in
set_option maxHeartbeats 4000000 in
theorem stored_36 (d n m a c i pc : Int) (r : Rg) (w : World) :
    Calls Try.prog 44 #[.agg (coA #[.int .i64 36, .int .i64 d, .int .i64 n, .int .i64 m, .int .i64 a, .int .i64 c, .int .i64 i] pc r)] w fun e w' => e = .returned (.int .u64 (r.get m)) ∧ Below w.heap.size w w' := by
  have H1 := fun w => Lib.hid (second_c 36 d n m a c i pc r w)
  have hc0 := coA_lo (i := #[.int .i64 36, .int .i64 d, .int .i64 n, .int .i64 m, .int .i64 a, .int .i64 c, .int .i64 i]) rfl pc r 0 (by omega)
  have HA := Lib.hid (coA_all (i := #[.int .i64 36, .int .i64 d, .int .i64 n, .int .i64 m, .int .i64 a, .int .i64 c, .int .i64 i]) rfl pc r)
  have HS := Lib.hid (coA_size (i := #[.int .i64 36, .int .i64 d, .int .i64 n, .int .i64 m, .int .i64 a, .int .i64 c, .int .i64 i]) rfl pc r)
  have HL := Lib.hid (fun w b => core_regs (w := w) (b := b) (i := #[.int .i64 36, .int .i64 d, .int .i64 n, .int .i64 m, .int .i64 a, .int .i64 c, .int .i64 i]) rfl (pc := pc) (r := r))
  have HM := Lib.hid (fun w b => core_all (w := w) (b := b) (i := #[.int .i64 36, .int .i64 d, .int .i64 n, .int .i64 m, .int .i64 a, .int .i64 c, .int .i64 i]) rfl (pc := pc) (r := r))
  simp only [List.getElem?_toArray, List.getElem?_cons_zero] at hc0
  generalize hC : coA #[.int .i64 36, .int .i64 d, .int .i64 n, .int .i64 m, .int .i64 a, .int .i64 c, .int .i64 i] pc r = C at *
  have HB := Lib.hid (rowAt_new w C 76)
  clear hC
  go_enter Try.func44, Try.ntmps44
  go_wp2_with (first | (refine wpl_load rfl 76 _ rfl w.heap.size 0 rfl C (HM.out _ _ HB.out) ?_))
  refine (H1 _).out.mono ?_
  rintro e w2 ⟨rfl, hb⟩
  have HB2 := Lib.hid (((Below.refl _ _).alloc (Nat.le_refl _) (.cells C 76)).trans (hb.mono (by simp)))
  clear hb
  go_wp2
  go_ret
  exact ⟨rfl, HB2.out⟩
theorem store_28 (w : World) : Calls Try.prog 69 #[.int .i64 28] w fun e w' => e = .returned (.bool false) ∧ w' = w := by
  go_enter Try.func69, Try.ntmps69
  go_wp2
  go_ret
  exact ⟨rfl, rfl⟩
set_option maxRecDepth 100000 in
set_option maxHeartbeats 4000000 in
theorem stored_28 (d n m a c i pc : Int) (r : Rg) (w : World) :
    Calls Try.prog 44 #[.agg (coA #[.int .i64 28, .int .i64 d, .int .i64 n, .int .i64 m, .int .i64 a, .int .i64 c, .int .i64 i] pc r)] w fun e w' => e = .returned (.int .u64 (0)) ∧ Below w.heap.size w w' := by
  have hc0 := coA_lo (i := #[.int .i64 28, .int .i64 d, .int .i64 n, .int .i64 m, .int .i64 a, .int .i64 c, .int .i64 i]) rfl pc r 0 (by omega)
  have hc1 := coA_lo (i := #[.int .i64 28, .int .i64 d, .int .i64 n, .int .i64 m, .int .i64 a, .int .i64 c, .int .i64 i]) rfl pc r 1 (by omega)
  have HA := Lib.hid (coA_all (i := #[.int .i64 28, .int .i64 d, .int .i64 n, .int .i64 m, .int .i64 a, .int .i64 c, .int .i64 i]) rfl pc r)
  have HS := Lib.hid (coA_size (i := #[.int .i64 28, .int .i64 d, .int .i64 n, .int .i64 m, .int .i64 a, .int .i64 c, .int .i64 i]) rfl pc r)
  have HL := Lib.hid (fun w b => core_regs (w := w) (b := b) (i := #[.int .i64 28, .int .i64 d, .int .i64 n, .int .i64 m, .int .i64 a, .int .i64 c, .int .i64 i]) rfl (pc := pc) (r := r))
  have HM := Lib.hid (fun w b => core_all (w := w) (b := b) (i := #[.int .i64 28, .int .i64 d, .int .i64 n, .int .i64 m, .int .i64 a, .int .i64 c, .int .i64 i]) rfl (pc := pc) (r := r))
  simp only [List.getElem?_toArray, List.getElem?_cons_zero, List.getElem?_cons_succ] at hc0 hc1
  generalize hC : coA #[.int .i64 28, .int .i64 d, .int .i64 n, .int .i64 m, .int .i64 a, .int .i64 c, .int .i64 i] pc r = C at *
  have HB := Lib.hid (rowAt_new w C 76)
  clear hC
  go_enter Try.func44, Try.ntmps44
  go_wp2_with (first | (refine wpl_load rfl 25 _ rfl w.heap.size 8 rfl r.arr (HL.out _ _ HB.out) ?_) | (go_at_call 69; refine (store_28 _).mono ?_; rintro e w' ⟨rfl, rfl⟩))
  go_ret
  exact ⟨rfl, (Below.refl _ _).alloc (Nat.le_refl _) (.cells C 76)⟩
theorem store_29 (w : World) : Calls Try.prog 69 #[.int .i64 29] w fun e w' => e = .returned (.bool true) ∧ w' = w := by
  go_enter Try.func69, Try.ntmps69
  go_wp2
  go_ret
  exact ⟨rfl, rfl⟩
set_option maxRecDepth 100000 in
set_option maxHeartbeats 4000000 in
theorem stored_29 (d n m a c i pc : Int) (r : Rg) (w : World) :
    Calls Try.prog 44 #[.agg (coA #[.int .i64 29, .int .i64 d, .int .i64 n, .int .i64 m, .int .i64 a, .int .i64 c, .int .i64 i] pc r)] w fun e w' => e = .returned (.int .u64 (r.get d)) ∧ Below w.heap.size w w' := by
  have hc0 := coA_lo (i := #[.int .i64 29, .int .i64 d, .int .i64 n, .int .i64 m, .int .i64 a, .int .i64 c, .int .i64 i]) rfl pc r 0 (by omega)
  have hc1 := coA_lo (i := #[.int .i64 29, .int .i64 d, .int .i64 n, .int .i64 m, .int .i64 a, .int .i64 c, .int .i64 i]) rfl pc r 1 (by omega)
  have HA := Lib.hid (coA_all (i := #[.int .i64 29, .int .i64 d, .int .i64 n, .int .i64 m, .int .i64 a, .int .i64 c, .int .i64 i]) rfl pc r)
  have HS := Lib.hid (coA_size (i := #[.int .i64 29, .int .i64 d, .int .i64 n, .int .i64 m, .int .i64 a, .int .i64 c, .int .i64 i]) rfl pc r)
  have HL := Lib.hid (fun w b => core_regs (w := w) (b := b) (i := #[.int .i64 29, .int .i64 d, .int .i64 n, .int .i64 m, .int .i64 a, .int .i64 c, .int .i64 i]) rfl (pc := pc) (r := r))
  have HM := Lib.hid (fun w b => core_all (w := w) (b := b) (i := #[.int .i64 29, .int .i64 d, .int .i64 n, .int .i64 m, .int .i64 a, .int .i64 c, .int .i64 i]) rfl (pc := pc) (r := r))
  simp only [List.getElem?_toArray, List.getElem?_cons_zero, List.getElem?_cons_succ] at hc0 hc1
  generalize hC : coA #[.int .i64 29, .int .i64 d, .int .i64 n, .int .i64 m, .int .i64 a, .int .i64 c, .int .i64 i] pc r = C at *
  have HB := Lib.hid (rowAt_new w C 76)
  clear hC
  go_enter Try.func44, Try.ntmps44
  go_wp2_with (first | (refine wpl_load rfl 25 _ rfl w.heap.size 8 rfl r.arr (HL.out _ _ HB.out) ?_) | (go_at_call 69; refine (store_29 _).mono ?_; rintro e w' ⟨rfl, rfl⟩))
  refine (get11 r d _).mono ?_
  rintro e w2 ⟨rfl, hb⟩
  have HB2 := Lib.hid (((Below.refl _ _).alloc (Nat.le_refl _) (.cells C 76)).trans (hb.mono (by simp)))
  clear hb
  go_wp2
  go_ret
  exact ⟨rfl, HB2.out⟩
theorem store_30 (w : World) : Calls Try.prog 69 #[.int .i64 30] w fun e w' => e = .returned (.bool false) ∧ w' = w := by
  go_enter Try.func69, Try.ntmps69
  go_wp2
  go_ret
  exact ⟨rfl, rfl⟩
set_option maxRecDepth 100000 in
set_option maxHeartbeats 4000000 in
theorem stored_30 (d n m a c i pc : Int) (r : Rg) (w : World) :
    Calls Try.prog 44 #[.agg (coA #[.int .i64 30, .int .i64 d, .int .i64 n, .int .i64 m, .int .i64 a, .int .i64 c, .int .i64 i] pc r)] w fun e w' => e = .returned (.int .u64 (0)) ∧ Below w.heap.size w w' := by
  have hc0 := coA_lo (i := #[.int .i64 30, .int .i64 d, .int .i64 n, .int .i64 m, .int .i64 a, .int .i64 c, .int .i64 i]) rfl pc r 0 (by omega)
  have hc1 := coA_lo (i := #[.int .i64 30, .int .i64 d, .int .i64 n, .int .i64 m, .int .i64 a, .int .i64 c, .int .i64 i]) rfl pc r 1 (by omega)
  have HA := Lib.hid (coA_all (i := #[.int .i64 30, .int .i64 d, .int .i64 n, .int .i64 m, .int .i64 a, .int .i64 c, .int .i64 i]) rfl pc r)
  have HS := Lib.hid (coA_size (i := #[.int .i64 30, .int .i64 d, .int .i64 n, .int .i64 m, .int .i64 a, .int .i64 c, .int .i64 i]) rfl pc r)
  have HL := Lib.hid (fun w b => core_regs (w := w) (b := b) (i := #[.int .i64 30, .int .i64 d, .int .i64 n, .int .i64 m, .int .i64 a, .int .i64 c, .int .i64 i]) rfl (pc := pc) (r := r))
  have HM := Lib.hid (fun w b => core_all (w := w) (b := b) (i := #[.int .i64 30, .int .i64 d, .int .i64 n, .int .i64 m, .int .i64 a, .int .i64 c, .int .i64 i]) rfl (pc := pc) (r := r))
  simp only [List.getElem?_toArray, List.getElem?_cons_zero, List.getElem?_cons_succ] at hc0 hc1
  generalize hC : coA #[.int .i64 30, .int .i64 d, .int .i64 n, .int .i64 m, .int .i64 a, .int .i64 c, .int .i64 i] pc r = C at *
  have HB := Lib.hid (rowAt_new w C 76)
  clear hC
  go_enter Try.func44, Try.ntmps44
  go_wp2_with (first | (refine wpl_load rfl 25 _ rfl w.heap.size 8 rfl r.arr (HL.out _ _ HB.out) ?_) | (go_at_call 69; refine (store_30 _).mono ?_; rintro e w' ⟨rfl, rfl⟩))
  go_ret
  exact ⟨rfl, (Below.refl _ _).alloc (Nat.le_refl _) (.cells C 76)⟩
theorem store_31 (w : World) : Calls Try.prog 69 #[.int .i64 31] w fun e w' => e = .returned (.bool false) ∧ w' = w := by
  go_enter Try.func69, Try.ntmps69
  go_wp2
  go_ret
  exact ⟨rfl, rfl⟩
set_option maxRecDepth 100000 in
set_option maxHeartbeats 4000000 in
theorem stored_31 (d n m a c i pc : Int) (r : Rg) (w : World) :
    Calls Try.prog 44 #[.agg (coA #[.int .i64 31, .int .i64 d, .int .i64 n, .int .i64 m, .int .i64 a, .int .i64 c, .int .i64 i] pc r)] w fun e w' => e = .returned (.int .u64 (0)) ∧ Below w.heap.size w w' := by
  have hc0 := coA_lo (i := #[.int .i64 31, .int .i64 d, .int .i64 n, .int .i64 m, .int .i64 a, .int .i64 c, .int .i64 i]) rfl pc r 0 (by omega)
  have hc1 := coA_lo (i := #[.int .i64 31, .int .i64 d, .int .i64 n, .int .i64 m, .int .i64 a, .int .i64 c, .int .i64 i]) rfl pc r 1 (by omega)
  have HA := Lib.hid (coA_all (i := #[.int .i64 31, .int .i64 d, .int .i64 n, .int .i64 m, .int .i64 a, .int .i64 c, .int .i64 i]) rfl pc r)
  have HS := Lib.hid (coA_size (i := #[.int .i64 31, .int .i64 d, .int .i64 n, .int .i64 m, .int .i64 a, .int .i64 c, .int .i64 i]) rfl pc r)
  have HL := Lib.hid (fun w b => core_regs (w := w) (b := b) (i := #[.int .i64 31, .int .i64 d, .int .i64 n, .int .i64 m, .int .i64 a, .int .i64 c, .int .i64 i]) rfl (pc := pc) (r := r))
  have HM := Lib.hid (fun w b => core_all (w := w) (b := b) (i := #[.int .i64 31, .int .i64 d, .int .i64 n, .int .i64 m, .int .i64 a, .int .i64 c, .int .i64 i]) rfl (pc := pc) (r := r))
  simp only [List.getElem?_toArray, List.getElem?_cons_zero, List.getElem?_cons_succ] at hc0 hc1
  generalize hC : coA #[.int .i64 31, .int .i64 d, .int .i64 n, .int .i64 m, .int .i64 a, .int .i64 c, .int .i64 i] pc r = C at *
  have HB := Lib.hid (rowAt_new w C 76)
  clear hC
  go_enter Try.func44, Try.ntmps44
  go_wp2_with (first | (refine wpl_load rfl 25 _ rfl w.heap.size 8 rfl r.arr (HL.out _ _ HB.out) ?_) | (go_at_call 69; refine (store_31 _).mono ?_; rintro e w' ⟨rfl, rfl⟩))
  go_ret
  exact ⟨rfl, (Below.refl _ _).alloc (Nat.le_refl _) (.cells C 76)⟩
theorem store_32 (w : World) : Calls Try.prog 69 #[.int .i64 32] w fun e w' => e = .returned (.bool true) ∧ w' = w := by
  go_enter Try.func69, Try.ntmps69
  go_wp2
  go_ret
  exact ⟨rfl, rfl⟩
set_option maxRecDepth 100000 in
set_option maxHeartbeats 4000000 in
theorem stored_32 (d n m a c i pc : Int) (r : Rg) (w : World) :
    Calls Try.prog 44 #[.agg (coA #[.int .i64 32, .int .i64 d, .int .i64 n, .int .i64 m, .int .i64 a, .int .i64 c, .int .i64 i] pc r)] w fun e w' => e = .returned (.int .u64 (r.get d)) ∧ Below w.heap.size w w' := by
  have hc0 := coA_lo (i := #[.int .i64 32, .int .i64 d, .int .i64 n, .int .i64 m, .int .i64 a, .int .i64 c, .int .i64 i]) rfl pc r 0 (by omega)
  have hc1 := coA_lo (i := #[.int .i64 32, .int .i64 d, .int .i64 n, .int .i64 m, .int .i64 a, .int .i64 c, .int .i64 i]) rfl pc r 1 (by omega)
  have HA := Lib.hid (coA_all (i := #[.int .i64 32, .int .i64 d, .int .i64 n, .int .i64 m, .int .i64 a, .int .i64 c, .int .i64 i]) rfl pc r)
  have HS := Lib.hid (coA_size (i := #[.int .i64 32, .int .i64 d, .int .i64 n, .int .i64 m, .int .i64 a, .int .i64 c, .int .i64 i]) rfl pc r)
  have HL := Lib.hid (fun w b => core_regs (w := w) (b := b) (i := #[.int .i64 32, .int .i64 d, .int .i64 n, .int .i64 m, .int .i64 a, .int .i64 c, .int .i64 i]) rfl (pc := pc) (r := r))
  have HM := Lib.hid (fun w b => core_all (w := w) (b := b) (i := #[.int .i64 32, .int .i64 d, .int .i64 n, .int .i64 m, .int .i64 a, .int .i64 c, .int .i64 i]) rfl (pc := pc) (r := r))
  simp only [List.getElem?_toArray, List.getElem?_cons_zero, List.getElem?_cons_succ] at hc0 hc1
  generalize hC : coA #[.int .i64 32, .int .i64 d, .int .i64 n, .int .i64 m, .int .i64 a, .int .i64 c, .int .i64 i] pc r = C at *
  have HB := Lib.hid (rowAt_new w C 76)
  clear hC
  go_enter Try.func44, Try.ntmps44
  go_wp2_with (first | (refine wpl_load rfl 25 _ rfl w.heap.size 8 rfl r.arr (HL.out _ _ HB.out) ?_) | (go_at_call 69; refine (store_32 _).mono ?_; rintro e w' ⟨rfl, rfl⟩))
  refine (get11 r d _).mono ?_
  rintro e w2 ⟨rfl, hb⟩
  have HB2 := Lib.hid (((Below.refl _ _).alloc (Nat.le_refl _) (.cells C 76)).trans (hb.mono (by simp)))
  clear hb
  go_wp2
  go_ret
  exact ⟨rfl, HB2.out⟩
theorem store_33 (w : World) : Calls Try.prog 69 #[.int .i64 33] w fun e w' => e = .returned (.bool false) ∧ w' = w := by
  go_enter Try.func69, Try.ntmps69
  go_wp2
  go_ret
  exact ⟨rfl, rfl⟩
set_option maxRecDepth 100000 in
set_option maxHeartbeats 4000000 in
theorem stored_33 (d n m a c i pc : Int) (r : Rg) (w : World) :
    Calls Try.prog 44 #[.agg (coA #[.int .i64 33, .int .i64 d, .int .i64 n, .int .i64 m, .int .i64 a, .int .i64 c, .int .i64 i] pc r)] w fun e w' => e = .returned (.int .u64 (0)) ∧ Below w.heap.size w w' := by
  have hc0 := coA_lo (i := #[.int .i64 33, .int .i64 d, .int .i64 n, .int .i64 m, .int .i64 a, .int .i64 c, .int .i64 i]) rfl pc r 0 (by omega)
  have hc1 := coA_lo (i := #[.int .i64 33, .int .i64 d, .int .i64 n, .int .i64 m, .int .i64 a, .int .i64 c, .int .i64 i]) rfl pc r 1 (by omega)
  have HA := Lib.hid (coA_all (i := #[.int .i64 33, .int .i64 d, .int .i64 n, .int .i64 m, .int .i64 a, .int .i64 c, .int .i64 i]) rfl pc r)
  have HS := Lib.hid (coA_size (i := #[.int .i64 33, .int .i64 d, .int .i64 n, .int .i64 m, .int .i64 a, .int .i64 c, .int .i64 i]) rfl pc r)
  have HL := Lib.hid (fun w b => core_regs (w := w) (b := b) (i := #[.int .i64 33, .int .i64 d, .int .i64 n, .int .i64 m, .int .i64 a, .int .i64 c, .int .i64 i]) rfl (pc := pc) (r := r))
  have HM := Lib.hid (fun w b => core_all (w := w) (b := b) (i := #[.int .i64 33, .int .i64 d, .int .i64 n, .int .i64 m, .int .i64 a, .int .i64 c, .int .i64 i]) rfl (pc := pc) (r := r))
  simp only [List.getElem?_toArray, List.getElem?_cons_zero, List.getElem?_cons_succ] at hc0 hc1
  generalize hC : coA #[.int .i64 33, .int .i64 d, .int .i64 n, .int .i64 m, .int .i64 a, .int .i64 c, .int .i64 i] pc r = C at *
  have HB := Lib.hid (rowAt_new w C 76)
  clear hC
  go_enter Try.func44, Try.ntmps44
  go_wp2_with (first | (refine wpl_load rfl 25 _ rfl w.heap.size 8 rfl r.arr (HL.out _ _ HB.out) ?_) | (go_at_call 69; refine (store_33 _).mono ?_; rintro e w' ⟨rfl, rfl⟩))
  go_ret
  exact ⟨rfl, (Below.refl _ _).alloc (Nat.le_refl _) (.cells C 76)⟩
theorem store_34 (w : World) : Calls Try.prog 69 #[.int .i64 34] w fun e w' => e = .returned (.bool true) ∧ w' = w := by
  go_enter Try.func69, Try.ntmps69
  go_wp2
  go_ret
  exact ⟨rfl, rfl⟩
set_option maxRecDepth 100000 in
set_option maxHeartbeats 4000000 in
theorem stored_34 (d n m a c i pc : Int) (r : Rg) (w : World) :
    Calls Try.prog 44 #[.agg (coA #[.int .i64 34, .int .i64 d, .int .i64 n, .int .i64 m, .int .i64 a, .int .i64 c, .int .i64 i] pc r)] w fun e w' => e = .returned (.int .u64 (r.get d)) ∧ Below w.heap.size w w' := by
  have hc0 := coA_lo (i := #[.int .i64 34, .int .i64 d, .int .i64 n, .int .i64 m, .int .i64 a, .int .i64 c, .int .i64 i]) rfl pc r 0 (by omega)
  have hc1 := coA_lo (i := #[.int .i64 34, .int .i64 d, .int .i64 n, .int .i64 m, .int .i64 a, .int .i64 c, .int .i64 i]) rfl pc r 1 (by omega)
  have HA := Lib.hid (coA_all (i := #[.int .i64 34, .int .i64 d, .int .i64 n, .int .i64 m, .int .i64 a, .int .i64 c, .int .i64 i]) rfl pc r)
  have HS := Lib.hid (coA_size (i := #[.int .i64 34, .int .i64 d, .int .i64 n, .int .i64 m, .int .i64 a, .int .i64 c, .int .i64 i]) rfl pc r)
  have HL := Lib.hid (fun w b => core_regs (w := w) (b := b) (i := #[.int .i64 34, .int .i64 d, .int .i64 n, .int .i64 m, .int .i64 a, .int .i64 c, .int .i64 i]) rfl (pc := pc) (r := r))
  have HM := Lib.hid (fun w b => core_all (w := w) (b := b) (i := #[.int .i64 34, .int .i64 d, .int .i64 n, .int .i64 m, .int .i64 a, .int .i64 c, .int .i64 i]) rfl (pc := pc) (r := r))
  simp only [List.getElem?_toArray, List.getElem?_cons_zero, List.getElem?_cons_succ] at hc0 hc1
  generalize hC : coA #[.int .i64 34, .int .i64 d, .int .i64 n, .int .i64 m, .int .i64 a, .int .i64 c, .int .i64 i] pc r = C at *
  have HB := Lib.hid (rowAt_new w C 76)
  clear hC
  go_enter Try.func44, Try.ntmps44
  go_wp2_with (first | (refine wpl_load rfl 25 _ rfl w.heap.size 8 rfl r.arr (HL.out _ _ HB.out) ?_) | (go_at_call 69; refine (store_34 _).mono ?_; rintro e w' ⟨rfl, rfl⟩))
  refine (get11 r d _).mono ?_
  rintro e w2 ⟨rfl, hb⟩
  have HB2 := Lib.hid (((Below.refl _ _).alloc (Nat.le_refl _) (.cells C 76)).trans (hb.mono (by simp)))
  clear hb
  go_wp2
  go_ret
  exact ⟨rfl, HB2.out⟩
theorem store_35 (w : World) : Calls Try.prog 69 #[.int .i64 35] w fun e w' => e = .returned (.bool false) ∧ w' = w := by
  go_enter Try.func69, Try.ntmps69
  go_wp2
  go_ret
  exact ⟨rfl, rfl⟩
set_option maxRecDepth 100000 in
set_option maxHeartbeats 4000000 in
theorem stored_35 (d n m a c i pc : Int) (r : Rg) (w : World) :
    Calls Try.prog 44 #[.agg (coA #[.int .i64 35, .int .i64 d, .int .i64 n, .int .i64 m, .int .i64 a, .int .i64 c, .int .i64 i] pc r)] w fun e w' => e = .returned (.int .u64 (0)) ∧ Below w.heap.size w w' := by
  have hc0 := coA_lo (i := #[.int .i64 35, .int .i64 d, .int .i64 n, .int .i64 m, .int .i64 a, .int .i64 c, .int .i64 i]) rfl pc r 0 (by omega)
  have hc1 := coA_lo (i := #[.int .i64 35, .int .i64 d, .int .i64 n, .int .i64 m, .int .i64 a, .int .i64 c, .int .i64 i]) rfl pc r 1 (by omega)
  have HA := Lib.hid (coA_all (i := #[.int .i64 35, .int .i64 d, .int .i64 n, .int .i64 m, .int .i64 a, .int .i64 c, .int .i64 i]) rfl pc r)
  have HS := Lib.hid (coA_size (i := #[.int .i64 35, .int .i64 d, .int .i64 n, .int .i64 m, .int .i64 a, .int .i64 c, .int .i64 i]) rfl pc r)
  have HL := Lib.hid (fun w b => core_regs (w := w) (b := b) (i := #[.int .i64 35, .int .i64 d, .int .i64 n, .int .i64 m, .int .i64 a, .int .i64 c, .int .i64 i]) rfl (pc := pc) (r := r))
  have HM := Lib.hid (fun w b => core_all (w := w) (b := b) (i := #[.int .i64 35, .int .i64 d, .int .i64 n, .int .i64 m, .int .i64 a, .int .i64 c, .int .i64 i]) rfl (pc := pc) (r := r))
  simp only [List.getElem?_toArray, List.getElem?_cons_zero, List.getElem?_cons_succ] at hc0 hc1
  generalize hC : coA #[.int .i64 35, .int .i64 d, .int .i64 n, .int .i64 m, .int .i64 a, .int .i64 c, .int .i64 i] pc r = C at *
  have HB := Lib.hid (rowAt_new w C 76)
  clear hC
  go_enter Try.func44, Try.ntmps44
  go_wp2_with (first | (refine wpl_load rfl 25 _ rfl w.heap.size 8 rfl r.arr (HL.out _ _ HB.out) ?_) | (go_at_call 69; refine (store_35 _).mono ?_; rintro e w' ⟨rfl, rfl⟩))
  go_ret
  exact ⟨rfl, (Below.refl _ _).alloc (Nat.le_refl _) (.cells C 76)⟩
theorem store_40 (w : World) : Calls Try.prog 69 #[.int .i64 40] w fun e w' => e = .returned (.bool false) ∧ w' = w := by
  go_enter Try.func69, Try.ntmps69
  go_wp2
  go_ret
  exact ⟨rfl, rfl⟩
set_option maxRecDepth 100000 in
set_option maxHeartbeats 4000000 in
theorem stored_40 (d n m a c i pc : Int) (r : Rg) (w : World) :
    Calls Try.prog 44 #[.agg (coA #[.int .i64 40, .int .i64 d, .int .i64 n, .int .i64 m, .int .i64 a, .int .i64 c, .int .i64 i] pc r)] w fun e w' => e = .returned (.int .u64 (0)) ∧ Below w.heap.size w w' := by
  have hc0 := coA_lo (i := #[.int .i64 40, .int .i64 d, .int .i64 n, .int .i64 m, .int .i64 a, .int .i64 c, .int .i64 i]) rfl pc r 0 (by omega)
  have hc1 := coA_lo (i := #[.int .i64 40, .int .i64 d, .int .i64 n, .int .i64 m, .int .i64 a, .int .i64 c, .int .i64 i]) rfl pc r 1 (by omega)
  have HA := Lib.hid (coA_all (i := #[.int .i64 40, .int .i64 d, .int .i64 n, .int .i64 m, .int .i64 a, .int .i64 c, .int .i64 i]) rfl pc r)
  have HS := Lib.hid (coA_size (i := #[.int .i64 40, .int .i64 d, .int .i64 n, .int .i64 m, .int .i64 a, .int .i64 c, .int .i64 i]) rfl pc r)
  have HL := Lib.hid (fun w b => core_regs (w := w) (b := b) (i := #[.int .i64 40, .int .i64 d, .int .i64 n, .int .i64 m, .int .i64 a, .int .i64 c, .int .i64 i]) rfl (pc := pc) (r := r))
  have HM := Lib.hid (fun w b => core_all (w := w) (b := b) (i := #[.int .i64 40, .int .i64 d, .int .i64 n, .int .i64 m, .int .i64 a, .int .i64 c, .int .i64 i]) rfl (pc := pc) (r := r))
  simp only [List.getElem?_toArray, List.getElem?_cons_zero, List.getElem?_cons_succ] at hc0 hc1
  generalize hC : coA #[.int .i64 40, .int .i64 d, .int .i64 n, .int .i64 m, .int .i64 a, .int .i64 c, .int .i64 i] pc r = C at *
  have HB := Lib.hid (rowAt_new w C 76)
  clear hC
  go_enter Try.func44, Try.ntmps44
  go_wp2_with (first | (refine wpl_load rfl 25 _ rfl w.heap.size 8 rfl r.arr (HL.out _ _ HB.out) ?_) | (go_at_call 69; refine (store_40 _).mono ?_; rintro e w' ⟨rfl, rfl⟩))
  go_ret
  exact ⟨rfl, (Below.refl _ _).alloc (Nat.le_refl _) (.cells C 76)⟩
theorem store_41 (w : World) : Calls Try.prog 69 #[.int .i64 41] w fun e w' => e = .returned (.bool false) ∧ w' = w := by
  go_enter Try.func69, Try.ntmps69
  go_wp2
  go_ret
  exact ⟨rfl, rfl⟩
set_option maxRecDepth 100000 in
set_option maxHeartbeats 4000000 in
theorem stored_41 (d n m a c i pc : Int) (r : Rg) (w : World) :
    Calls Try.prog 44 #[.agg (coA #[.int .i64 41, .int .i64 d, .int .i64 n, .int .i64 m, .int .i64 a, .int .i64 c, .int .i64 i] pc r)] w fun e w' => e = .returned (.int .u64 (0)) ∧ Below w.heap.size w w' := by
  have hc0 := coA_lo (i := #[.int .i64 41, .int .i64 d, .int .i64 n, .int .i64 m, .int .i64 a, .int .i64 c, .int .i64 i]) rfl pc r 0 (by omega)
  have hc1 := coA_lo (i := #[.int .i64 41, .int .i64 d, .int .i64 n, .int .i64 m, .int .i64 a, .int .i64 c, .int .i64 i]) rfl pc r 1 (by omega)
  have HA := Lib.hid (coA_all (i := #[.int .i64 41, .int .i64 d, .int .i64 n, .int .i64 m, .int .i64 a, .int .i64 c, .int .i64 i]) rfl pc r)
  have HS := Lib.hid (coA_size (i := #[.int .i64 41, .int .i64 d, .int .i64 n, .int .i64 m, .int .i64 a, .int .i64 c, .int .i64 i]) rfl pc r)
  have HL := Lib.hid (fun w b => core_regs (w := w) (b := b) (i := #[.int .i64 41, .int .i64 d, .int .i64 n, .int .i64 m, .int .i64 a, .int .i64 c, .int .i64 i]) rfl (pc := pc) (r := r))
  have HM := Lib.hid (fun w b => core_all (w := w) (b := b) (i := #[.int .i64 41, .int .i64 d, .int .i64 n, .int .i64 m, .int .i64 a, .int .i64 c, .int .i64 i]) rfl (pc := pc) (r := r))
  simp only [List.getElem?_toArray, List.getElem?_cons_zero, List.getElem?_cons_succ] at hc0 hc1
  generalize hC : coA #[.int .i64 41, .int .i64 d, .int .i64 n, .int .i64 m, .int .i64 a, .int .i64 c, .int .i64 i] pc r = C at *
  have HB := Lib.hid (rowAt_new w C 76)
  clear hC
  go_enter Try.func44, Try.ntmps44
  go_wp2_with (first | (refine wpl_load rfl 25 _ rfl w.heap.size 8 rfl r.arr (HL.out _ _ HB.out) ?_) | (go_at_call 69; refine (store_41 _).mono ?_; rintro e w' ⟨rfl, rfl⟩))
  go_ret
  exact ⟨rfl, (Below.refl _ _).alloc (Nat.le_refl _) (.cells C 76)⟩
end Go.Proofs.Ytpjfjdncdiemlaa
