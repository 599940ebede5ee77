import Derived.Test.YtpjfjdncdiemlaaRows
import Derived.WalkKit
import Derived.ProofKit
import Derived.OpenShut
import Derived.Deep.QuietTactic
import Derived.BigQuiet
import Derived.Outline
import Derived.WalkSmall
import Derived.WalkLawsBesides
import Derived.WalkSpells
import Derived.BigGuardPart
import Derived.RegionTactic
import Derived.Deep.RegionHeld3
import Derived.Lib.Hide
import Derived.Deep.MidRow
import Derived.Below
import Derived.Deep.RegionWith
import Derived.Test.YtpjfjdncdiemlaaSmC
import Derived.Test.YtpjfjdncdiemlaaSmX
import Derived.Laws.BitsAllLaws
import Derived.Laws.BitsLemmas
import Derived.Deep.OwnRows
import Derived.Deep.AppendLies
import Derived.Laws.BitsAllLaws
import Derived.Laws.BitsLemmas
namespace Go.Proofs.Ytpjfjdncdiemlaa
open Go.ChangeShapes Go.WideShapes Go.ChangeAt Go.RowKit
set_option linter.unusedVariables false



theorem or_disj (X i s : Nat) (h : X / 2 ^ s % 65536 = 0) (hi : i < 65536) : X ||| i * 2 ^ s = X + i * 2 ^ s := by
  have e1 : X = 2 ^ (s + 16) * (X / 2 ^ (s + 16)) + X % 2 ^ s := by
    have h1 := Nat.div_add_mod X (2 ^ s)
    have h2 : X / 2 ^ (s + 16) = X / 2 ^ s / 65536 := by rw [Nat.pow_add, Nat.div_div_eq_div_mul]
    have h3 := Nat.div_add_mod (X / 2 ^ s) 65536
    rw [h, Nat.add_zero] at h3
    rw [h2, Nat.pow_add, Nat.mul_assoc, show (2 : Nat) ^ 16 = 65536 by decide, h3]
    omega
  have hL : X % 2 ^ s < 2 ^ s := Nat.mod_lt _ (Nat.two_pow_pos s)
  generalize X / 2 ^ (s + 16) = H at e1
  generalize X % 2 ^ s = L at e1 hL
  have hlt : 2 ^ s * i + L < 2 ^ (s + 16) := by
    rw [Nat.pow_add]
    have : 2 ^ s * i ≤ 2 ^ s * 65535 := Nat.mul_le_mul_left _ (by omega)
    have h16 : (2 : Nat) ^ 16 = 65536 := by decide
    rw [h16]
    omega
  have hlt2 : L < 2 ^ (s + 16) := by omega
  rw [e1, Nat.mul_comm i, Nat.two_pow_add_eq_or_of_lt hlt2, Nat.or_assoc, Nat.or_comm L, ← Nat.two_pow_add_eq_or_of_lt hL, ← Nat.two_pow_add_eq_or_of_lt hlt, ← Nat.two_pow_add_eq_or_of_lt hlt2]
  omega
theorem and_field (X s : Nat) (h : X / 2 ^ s % 65536 = 0) : X &&& 65535 * 2 ^ s = 0 := by
  have : X &&& 65535 * 2 ^ s = ((X >>> s) % 2 ^ 16) <<< s := by
    apply Nat.eq_of_testBit_eq
    intro j
    rw [Nat.testBit_and, ← Nat.shiftLeft_eq, Nat.testBit_shiftLeft, Nat.testBit_shiftLeft, Nat.testBit_mod_two_pow, Nat.testBit_shiftRight, show (65535 : Nat) = 2 ^ 16 - 1 by decide, Nat.testBit_two_pow_sub_one]
    by_cases hj : s ≤ j
    · have e : s + (j - s) = j := by omega
      rw [e]
      simp [hj]
      rw [Bool.and_comm]
    · simp [hj]
  rw [this, Nat.shiftRight_eq_div_pow, show (2 : Nat) ^ 16 = 65536 by decide, h]
  simp
theorem andNot_u64 (X M : Nat) (hX : X < 18446744073709551616) (hM : M < 18446744073709551616) (h : X &&& M = 0) : bits .andNot .u64 (X : Int) (M : Int) = X := by
  have h0 : BitVec.ofInt 64 (X : Int) &&& BitVec.ofInt 64 (M : Int) = 0#64 := BitVec.eq_of_toNat_eq (by rw [BitVec.toNat_and, ofInt_u64 X hX, ofInt_u64 M hM, h]; rfl)
  have h1 : BitVec.ofInt 64 (X : Int) &&& ~~~BitVec.ofInt 64 (M : Int) = BitVec.ofInt 64 (X : Int) := by
    generalize BitVec.ofInt 64 (X : Int) = a at *
    generalize BitVec.ofInt 64 (M : Int) = b at *
    apply BitVec.eq_of_getLsbD_eq
    intro i hi
    have h2 : (a &&& b).getLsbD i = false := by rw [h0]; simp
    rw [BitVec.getLsbD_and] at h2 ⊢
    rw [BitVec.getLsbD_not]
    cases ha : a.getLsbD i <;> cases hb : b.getLsbD i <;> simp_all
  show IntKind.u64.wrap ((BitVec.ofInt 64 (X : Int) &&& ~~~BitVec.ofInt 64 (M : Int)).toNat : Int) = _
  rw [h1, ofInt_u64 X hX, IntKind.wrap_u64]
  omega
theorem or_u64 (X Y : Nat) (hX : X < 18446744073709551616) (hY : Y < 18446744073709551616) : bits .or .u64 (X : Int) (Y : Int) = ((X ||| Y : Nat) : Int) := by
  have hx : X ||| Y < 2 ^ 64 := Nat.or_lt_two_pow (by omega) (by omega)
  show IntKind.u64.wrap ((BitVec.ofInt 64 (X : Int) ||| BitVec.ofInt 64 (Y : Int)).toNat : Int) = _
  rw [BitVec.toNat_or, ofInt_u64 X hX, ofInt_u64 Y hY, IntKind.wrap_u64]
  omega
theorem keep_0 (x i : Int) (x1 : 0 ≤ x) (x2 : x < 18446744073709551616) (i1 : 0 ≤ i) (i2 : i ≤ 65535) (h : x / 1 % 65536 = 0) : bits .or .u64 (bits .andNot .u64 x (IntKind.u64.wrap 65535)) (i) = x + i := by
  obtain ⟨X, rfl⟩ := Int.eq_ofNat_of_zero_le x1
  obtain ⟨I, rfl⟩ := Int.eq_ofNat_of_zero_le i1
  have hf : X / 2 ^ 0 % 65536 = 0 := by simp only [Nat.reducePow]; omega
  have hm : IntKind.u64.wrap 65535 = ((65535 : Nat) : Int) := by rfl
  have ha := and_field X 0 hf
  simp only [Nat.reducePow, Nat.reduceMul] at ha
  rw [hm, andNot_u64 X 65535 (by omega) (by decide) ha]
  have hi : (I : Int) = ((I * 1 : Nat) : Int) := by omega
  rw [hi, or_u64 X (I * 1) (by omega) (by omega)]
  have ho := or_disj X I 0 hf (by omega)
  simp only [Nat.reducePow] at ho
  rw [ho]
  omega
theorem keep_1 (x i : Int) (x1 : 0 ≤ x) (x2 : x < 18446744073709551616) (i1 : 0 ≤ i) (i2 : i ≤ 65535) (h : x / 65536 % 65536 = 0) : bits .or .u64 (bits .andNot .u64 x (IntKind.u64.wrap 4294901760)) (i * 65536) = x + i * 65536 := by
  obtain ⟨X, rfl⟩ := Int.eq_ofNat_of_zero_le x1
  obtain ⟨I, rfl⟩ := Int.eq_ofNat_of_zero_le i1
  have hf : X / 2 ^ 16 % 65536 = 0 := by simp only [Nat.reducePow]; omega
  have hm : IntKind.u64.wrap 4294901760 = ((4294901760 : Nat) : Int) := by rfl
  have ha := and_field X 16 hf
  simp only [Nat.reducePow, Nat.reduceMul] at ha
  rw [hm, andNot_u64 X 4294901760 (by omega) (by decide) ha]
  have hi : (I : Int) * 65536 = ((I * 65536 : Nat) : Int) := by omega
  rw [hi, or_u64 X (I * 65536) (by omega) (by omega)]
  have ho := or_disj X I 16 hf (by omega)
  simp only [Nat.reducePow] at ho
  rw [ho]
  omega
theorem keep_2 (x i : Int) (x1 : 0 ≤ x) (x2 : x < 18446744073709551616) (i1 : 0 ≤ i) (i2 : i ≤ 65535) (h : x / 4294967296 % 65536 = 0) : bits .or .u64 (bits .andNot .u64 x (IntKind.u64.wrap 281470681743360)) (i * 4294967296) = x + i * 4294967296 := by
  obtain ⟨X, rfl⟩ := Int.eq_ofNat_of_zero_le x1
  obtain ⟨I, rfl⟩ := Int.eq_ofNat_of_zero_le i1
  have hf : X / 2 ^ 32 % 65536 = 0 := by simp only [Nat.reducePow]; omega
  have hm : IntKind.u64.wrap 281470681743360 = ((281470681743360 : Nat) : Int) := by rfl
  have ha := and_field X 32 hf
  simp only [Nat.reducePow, Nat.reduceMul] at ha
  rw [hm, andNot_u64 X 281470681743360 (by omega) (by decide) ha]
  have hi : (I : Int) * 4294967296 = ((I * 4294967296 : Nat) : Int) := by omega
  rw [hi, or_u64 X (I * 4294967296) (by omega) (by omega)]
  have ho := or_disj X I 32 hf (by omega)
  simp only [Nat.reducePow] at ho
  rw [ho]
  omega
theorem keep_3 (x i : Int) (x1 : 0 ≤ x) (x2 : x < 18446744073709551616) (i1 : 0 ≤ i) (i2 : i ≤ 65535) (h : x / 281474976710656 % 65536 = 0) : bits .or .u64 (bits .andNot .u64 x (IntKind.u64.wrap 18446462598732840960)) (i * 281474976710656) = x + i * 281474976710656 := by
  obtain ⟨X, rfl⟩ := Int.eq_ofNat_of_zero_le x1
  obtain ⟨I, rfl⟩ := Int.eq_ofNat_of_zero_le i1
  have hf : X / 2 ^ 48 % 65536 = 0 := by simp only [Nat.reducePow]; omega
  have hm : IntKind.u64.wrap 18446462598732840960 = ((18446462598732840960 : Nat) : Int) := by rfl
  have ha := and_field X 48 hf
  simp only [Nat.reducePow, Nat.reduceMul] at ha
  rw [hm, andNot_u64 X 18446462598732840960 (by omega) (by decide) ha]
  have hi : (I : Int) * 281474976710656 = ((I * 281474976710656 : Nat) : Int) := by omega
  rw [hi, or_u64 X (I * 281474976710656) (by omega) (by omega)]
  have ho := or_disj X I 48 hf (by omega)
  simp only [Nat.reducePow] at ho
  rw [ho]
  omega
attribute [local go_sem ↓] ld76 ld25 ld38
attribute [local go_sem] rowAt_drew rowAt_drewN
set_option maxRecDepth 100000 in
set_option maxHeartbeats 2000000 in
theorem kept_0 (o d n a c i pc : Int) (r : Rg) (w : World) (i1 : 0 ≤ i) (i2 : i ≤ 65535) (x1 : 0 ≤ r.get d) (x2 : r.get d < 18446744073709551616) (hf : r.get d / 1 % 65536 = 0) :
    Calls Try.prog 79 #[.agg (coA #[.int .i64 o, .int .i64 d, .int .i64 n, .int .i64 0, .int .i64 a, .int .i64 c, .int .i64 i] pc r)] w fun e w' => e = .returned (.int .u64 (r.get d + i)) ∧ Below w.heap.size w w' := by
  have H1 := fun w => Lib.hid ((get11 r d w))
  have H2 := fun w => Lib.hid ((moved_0 o d n a c i pc r w i1 i2))
  have hc1 := coA_lo (i := #[.int .i64 o, .int .i64 d, .int .i64 n, .int .i64 0, .int .i64 a, .int .i64 c, .int .i64 i]) rfl pc r 1 (by omega)
  have hc3 := coA_lo (i := #[.int .i64 o, .int .i64 d, .int .i64 n, .int .i64 0, .int .i64 a, .int .i64 c, .int .i64 i]) rfl pc r 3 (by omega)
  have HA := Lib.hid (coA_all (i := #[.int .i64 o, .int .i64 d, .int .i64 n, .int .i64 0, .int .i64 a, .int .i64 c, .int .i64 i]) rfl pc r)
  have HS := Lib.hid (coA_size (i := #[.int .i64 o, .int .i64 d, .int .i64 n, .int .i64 0, .int .i64 a, .int .i64 c, .int .i64 i]) rfl pc r)
  have HL := Lib.hid (fun w b => core_regs (w := w) (b := b) (i := #[.int .i64 o, .int .i64 d, .int .i64 n, .int .i64 0, .int .i64 a, .int .i64 c, .int .i64 i]) rfl (pc := pc) (r := r))
  have HM := Lib.hid (fun w b => core_all (w := w) (b := b) (i := #[.int .i64 o, .int .i64 d, .int .i64 n, .int .i64 0, .int .i64 a, .int .i64 c, .int .i64 i]) rfl (pc := pc) (r := r))
  simp only [List.getElem?_toArray, List.getElem?_cons_zero, List.getElem?_cons_succ] at hc1 hc3
  generalize hC : coA #[.int .i64 o, .int .i64 d, .int .i64 n, .int .i64 0, .int .i64 a, .int .i64 c, .int .i64 i] pc r = C at *
  have HB := Lib.hid (rowAt_new w C 76)
  clear hC
  have hw16 : IntKind.i64.wrap 0 = 0 := by rfl
  have HK := Lib.hid (keep_0 (r.get d) i x1 x2 i1 i2 hf)
  clear hf
  go_enter Try.func79, Try.ntmps79
  go_wp2_with fail
  have HBB : Hid (Below w.heap.size w (w.alloc (.cells C 76))) := Lib.hid ((Below.refl _ _).alloc (Nat.le_refl _) _)
  obtain ⟨b, hb⟩ : ∃ b, b = w.heap.size := ⟨_, rfl⟩
  rw [← hb] at HB
  have HN := Lib.hid hb
  rw [← hb]
  clear hb
  have hB := HB.out
  have ha : ∀ w', rowAt w' b = some C → (ldAt 76 (.pointer (some ⟨b, 0, none⟩))).run Try.prog w' = .ok (.agg C) w' := fun w' h => HM.out w' b h
  have hr : ∀ w', rowAt w' b = some C → (ldAt 25 (.pointer (some ⟨b, 8, none⟩))).run Try.prog w' = .ok (.agg r.arr) w' := fun w' h => HL.out w' b h
  have hf1 : ∀ w' : World, rowAt w' b = some C → w'.cell? ⟨b, 1, none⟩ = some (.int .i64 d) := fun w' h => (rowAt_cell h 1).trans hc1
  have hf3 : ∀ w' : World, rowAt w' b = some C → w'.cell? ⟨b, 3, none⟩ = some (.int .i64 0) := fun w' h => (rowAt_cell h 3).trans hc3
  generalize w.alloc (.cells C 76) = w1 at *
  go_region_held3 (fun w' => rowAt w' b = some C) (assumption) (first | (go_at_call 11; refine ((H1 _).out).mono ?_; rintro e w' ⟨rfl, hb1⟩; have hB1 := rowAt_below (by assumption) hb1 rfl; have HB1 := Lib.hid (below_step HBB.out hb1 rfl rfl rfl rfl); replace HBB := HB1; clear HB1 hb1) | (go_at_call 78; refine ((H2 _).out).mono ?_; rintro e w' ⟨rfl, hb2⟩; have hB2 := rowAt_below (by assumption) hb2 rfl; have HB2 := Lib.hid (below_step HBB.out hb2 rfl rfl rfl rfl); replace HBB := HB2; clear HB2 hb2))
  all_goals
    go_wp2
    go_ret
    exact ⟨congrArg (fun z => Ending.returned (.int .u64 z)) HK.out, HBB.out⟩
set_option maxRecDepth 100000 in
set_option maxHeartbeats 2000000 in
theorem kept_1 (o d n a c i pc : Int) (r : Rg) (w : World) (i1 : 0 ≤ i) (i2 : i ≤ 65535) (x1 : 0 ≤ r.get d) (x2 : r.get d < 18446744073709551616) (hf : r.get d / 65536 % 65536 = 0) :
    Calls Try.prog 79 #[.agg (coA #[.int .i64 o, .int .i64 d, .int .i64 n, .int .i64 1, .int .i64 a, .int .i64 c, .int .i64 i] pc r)] w fun e w' => e = .returned (.int .u64 (r.get d + i * 65536)) ∧ Below w.heap.size w w' := by
  have H1 := fun w => Lib.hid ((get11 r d w))
  have H2 := fun w => Lib.hid ((moved_1 o d n a c i pc r w i1 i2))
  have hc1 := coA_lo (i := #[.int .i64 o, .int .i64 d, .int .i64 n, .int .i64 1, .int .i64 a, .int .i64 c, .int .i64 i]) rfl pc r 1 (by omega)
  have hc3 := coA_lo (i := #[.int .i64 o, .int .i64 d, .int .i64 n, .int .i64 1, .int .i64 a, .int .i64 c, .int .i64 i]) rfl pc r 3 (by omega)
  have HA := Lib.hid (coA_all (i := #[.int .i64 o, .int .i64 d, .int .i64 n, .int .i64 1, .int .i64 a, .int .i64 c, .int .i64 i]) rfl pc r)
  have HS := Lib.hid (coA_size (i := #[.int .i64 o, .int .i64 d, .int .i64 n, .int .i64 1, .int .i64 a, .int .i64 c, .int .i64 i]) rfl pc r)
  have HL := Lib.hid (fun w b => core_regs (w := w) (b := b) (i := #[.int .i64 o, .int .i64 d, .int .i64 n, .int .i64 1, .int .i64 a, .int .i64 c, .int .i64 i]) rfl (pc := pc) (r := r))
  have HM := Lib.hid (fun w b => core_all (w := w) (b := b) (i := #[.int .i64 o, .int .i64 d, .int .i64 n, .int .i64 1, .int .i64 a, .int .i64 c, .int .i64 i]) rfl (pc := pc) (r := r))
  simp only [List.getElem?_toArray, List.getElem?_cons_zero, List.getElem?_cons_succ] at hc1 hc3
  generalize hC : coA #[.int .i64 o, .int .i64 d, .int .i64 n, .int .i64 1, .int .i64 a, .int .i64 c, .int .i64 i] pc r = C at *
  have HB := Lib.hid (rowAt_new w C 76)
  clear hC
  have hw16 : IntKind.i64.wrap 16 = 16 := by rfl
  have HK := Lib.hid (keep_1 (r.get d) i x1 x2 i1 i2 hf)
  clear hf
  go_enter Try.func79, Try.ntmps79
  go_wp2_with fail
  have HBB : Hid (Below w.heap.size w (w.alloc (.cells C 76))) := Lib.hid ((Below.refl _ _).alloc (Nat.le_refl _) _)
  obtain ⟨b, hb⟩ : ∃ b, b = w.heap.size := ⟨_, rfl⟩
  rw [← hb] at HB
  have HN := Lib.hid hb
  rw [← hb]
  clear hb
  have hB := HB.out
  have ha : ∀ w', rowAt w' b = some C → (ldAt 76 (.pointer (some ⟨b, 0, none⟩))).run Try.prog w' = .ok (.agg C) w' := fun w' h => HM.out w' b h
  have hr : ∀ w', rowAt w' b = some C → (ldAt 25 (.pointer (some ⟨b, 8, none⟩))).run Try.prog w' = .ok (.agg r.arr) w' := fun w' h => HL.out w' b h
  have hf1 : ∀ w' : World, rowAt w' b = some C → w'.cell? ⟨b, 1, none⟩ = some (.int .i64 d) := fun w' h => (rowAt_cell h 1).trans hc1
  have hf3 : ∀ w' : World, rowAt w' b = some C → w'.cell? ⟨b, 3, none⟩ = some (.int .i64 1) := fun w' h => (rowAt_cell h 3).trans hc3
  generalize w.alloc (.cells C 76) = w1 at *
  go_region_held3 (fun w' => rowAt w' b = some C) (assumption) (first | (go_at_call 11; refine ((H1 _).out).mono ?_; rintro e w' ⟨rfl, hb1⟩; have hB1 := rowAt_below (by assumption) hb1 rfl; have HB1 := Lib.hid (below_step HBB.out hb1 rfl rfl rfl rfl); replace HBB := HB1; clear HB1 hb1) | (go_at_call 78; refine ((H2 _).out).mono ?_; rintro e w' ⟨rfl, hb2⟩; have hB2 := rowAt_below (by assumption) hb2 rfl; have HB2 := Lib.hid (below_step HBB.out hb2 rfl rfl rfl rfl); replace HBB := HB2; clear HB2 hb2))
  all_goals
    go_wp2
    go_ret
    exact ⟨congrArg (fun z => Ending.returned (.int .u64 z)) HK.out, HBB.out⟩
set_option maxRecDepth 100000 in
set_option maxHeartbeats 2000000 in
theorem kept_2 (o d n a c i pc : Int) (r : Rg) (w : World) (i1 : 0 ≤ i) (i2 : i ≤ 65535) (x1 : 0 ≤ r.get d) (x2 : r.get d < 18446744073709551616) (hf : r.get d / 4294967296 % 65536 = 0) :
    Calls Try.prog 79 #[.agg (coA #[.int .i64 o, .int .i64 d, .int .i64 n, .int .i64 2, .int .i64 a, .int .i64 c, .int .i64 i] pc r)] w fun e w' => e = .returned (.int .u64 (r.get d + i * 4294967296)) ∧ Below w.heap.size w w' := by
  have H1 := fun w => Lib.hid ((get11 r d w))
  have H2 := fun w => Lib.hid ((moved_2 o d n a c i pc r w i1 i2))
  have hc1 := coA_lo (i := #[.int .i64 o, .int .i64 d, .int .i64 n, .int .i64 2, .int .i64 a, .int .i64 c, .int .i64 i]) rfl pc r 1 (by omega)
  have hc3 := coA_lo (i := #[.int .i64 o, .int .i64 d, .int .i64 n, .int .i64 2, .int .i64 a, .int .i64 c, .int .i64 i]) rfl pc r 3 (by omega)
  have HA := Lib.hid (coA_all (i := #[.int .i64 o, .int .i64 d, .int .i64 n, .int .i64 2, .int .i64 a, .int .i64 c, .int .i64 i]) rfl pc r)
  have HS := Lib.hid (coA_size (i := #[.int .i64 o, .int .i64 d, .int .i64 n, .int .i64 2, .int .i64 a, .int .i64 c, .int .i64 i]) rfl pc r)
  have HL := Lib.hid (fun w b => core_regs (w := w) (b := b) (i := #[.int .i64 o, .int .i64 d, .int .i64 n, .int .i64 2, .int .i64 a, .int .i64 c, .int .i64 i]) rfl (pc := pc) (r := r))
  have HM := Lib.hid (fun w b => core_all (w := w) (b := b) (i := #[.int .i64 o, .int .i64 d, .int .i64 n, .int .i64 2, .int .i64 a, .int .i64 c, .int .i64 i]) rfl (pc := pc) (r := r))
  simp only [List.getElem?_toArray, List.getElem?_cons_zero, List.getElem?_cons_succ] at hc1 hc3
  generalize hC : coA #[.int .i64 o, .int .i64 d, .int .i64 n, .int .i64 2, .int .i64 a, .int .i64 c, .int .i64 i] pc r = C at *
  have HB := Lib.hid (rowAt_new w C 76)
  clear hC
  have hw16 : IntKind.i64.wrap 32 = 32 := by rfl
  have HK := Lib.hid (keep_2 (r.get d) i x1 x2 i1 i2 hf)
  clear hf
  go_enter Try.func79, Try.ntmps79
  go_wp2_with fail
  have HBB : Hid (Below w.heap.size w (w.alloc (.cells C 76))) := Lib.hid ((Below.refl _ _).alloc (Nat.le_refl _) _)
  obtain ⟨b, hb⟩ : ∃ b, b = w.heap.size := ⟨_, rfl⟩
  rw [← hb] at HB
  have HN := Lib.hid hb
  rw [← hb]
  clear hb
  have hB := HB.out
  have ha : ∀ w', rowAt w' b = some C → (ldAt 76 (.pointer (some ⟨b, 0, none⟩))).run Try.prog w' = .ok (.agg C) w' := fun w' h => HM.out w' b h
  have hr : ∀ w', rowAt w' b = some C → (ldAt 25 (.pointer (some ⟨b, 8, none⟩))).run Try.prog w' = .ok (.agg r.arr) w' := fun w' h => HL.out w' b h
  have hf1 : ∀ w' : World, rowAt w' b = some C → w'.cell? ⟨b, 1, none⟩ = some (.int .i64 d) := fun w' h => (rowAt_cell h 1).trans hc1
  have hf3 : ∀ w' : World, rowAt w' b = some C → w'.cell? ⟨b, 3, none⟩ = some (.int .i64 2) := fun w' h => (rowAt_cell h 3).trans hc3
  generalize w.alloc (.cells C 76) = w1 at *
  go_region_held3 (fun w' => rowAt w' b = some C) (assumption) (first | (go_at_call 11; refine ((H1 _).out).mono ?_; rintro e w' ⟨rfl, hb1⟩; have hB1 := rowAt_below (by assumption) hb1 rfl; have HB1 := Lib.hid (below_step HBB.out hb1 rfl rfl rfl rfl); replace HBB := HB1; clear HB1 hb1) | (go_at_call 78; refine ((H2 _).out).mono ?_; rintro e w' ⟨rfl, hb2⟩; have hB2 := rowAt_below (by assumption) hb2 rfl; have HB2 := Lib.hid (below_step HBB.out hb2 rfl rfl rfl rfl); replace HBB := HB2; clear HB2 hb2))
  all_goals
    go_wp2
    go_ret
    exact ⟨congrArg (fun z => Ending.returned (.int .u64 z)) HK.out, HBB.out⟩
set_option maxRecDepth 100000 in
set_option maxHeartbeats 2000000 in
theorem kept_3 (o d n a c i pc : Int) (r : Rg) (w : World) (i1 : 0 ≤ i) (i2 : i ≤ 65535) (x1 : 0 ≤ r.get d) (x2 : r.get d < 18446744073709551616) (hf : r.get d / 281474976710656 % 65536 = 0) :
    Calls Try.prog 79 #[.agg (coA #[.int .i64 o, .int .i64 d, .int .i64 n, .int .i64 3, .int .i64 a, .int .i64 c, .int .i64 i] pc r)] w fun e w' => e = .returned (.int .u64 (r.get d + i * 281474976710656)) ∧ Below w.heap.size w w' := by
  have H1 := fun w => Lib.hid ((get11 r d w))
  have H2 := fun w => Lib.hid ((moved_3 o d n a c i pc r w i1 i2))
  have hc1 := coA_lo (i := #[.int .i64 o, .int .i64 d, .int .i64 n, .int .i64 3, .int .i64 a, .int .i64 c, .int .i64 i]) rfl pc r 1 (by omega)
  have hc3 := coA_lo (i := #[.int .i64 o, .int .i64 d, .int .i64 n, .int .i64 3, .int .i64 a, .int .i64 c, .int .i64 i]) rfl pc r 3 (by omega)
  have HA := Lib.hid (coA_all (i := #[.int .i64 o, .int .i64 d, .int .i64 n, .int .i64 3, .int .i64 a, .int .i64 c, .int .i64 i]) rfl pc r)
  have HS := Lib.hid (coA_size (i := #[.int .i64 o, .int .i64 d, .int .i64 n, .int .i64 3, .int .i64 a, .int .i64 c, .int .i64 i]) rfl pc r)
  have HL := Lib.hid (fun w b => core_regs (w := w) (b := b) (i := #[.int .i64 o, .int .i64 d, .int .i64 n, .int .i64 3, .int .i64 a, .int .i64 c, .int .i64 i]) rfl (pc := pc) (r := r))
  have HM := Lib.hid (fun w b => core_all (w := w) (b := b) (i := #[.int .i64 o, .int .i64 d, .int .i64 n, .int .i64 3, .int .i64 a, .int .i64 c, .int .i64 i]) rfl (pc := pc) (r := r))
  simp only [List.getElem?_toArray, List.getElem?_cons_zero, List.getElem?_cons_succ] at hc1 hc3
  generalize hC : coA #[.int .i64 o, .int .i64 d, .int .i64 n, .int .i64 3, .int .i64 a, .int .i64 c, .int .i64 i] pc r = C at *
  have HB := Lib.hid (rowAt_new w C 76)
  clear hC
  have hw16 : IntKind.i64.wrap 48 = 48 := by rfl
  have HK := Lib.hid (keep_3 (r.get d) i x1 x2 i1 i2 hf)
  clear hf
  go_enter Try.func79, Try.ntmps79
  go_wp2_with fail
  have HBB : Hid (Below w.heap.size w (w.alloc (.cells C 76))) := Lib.hid ((Below.refl _ _).alloc (Nat.le_refl _) _)
  obtain ⟨b, hb⟩ : ∃ b, b = w.heap.size := ⟨_, rfl⟩
  rw [← hb] at HB
  have HN := Lib.hid hb
  rw [← hb]
  clear hb
  have hB := HB.out
  have ha : ∀ w', rowAt w' b = some C → (ldAt 76 (.pointer (some ⟨b, 0, none⟩))).run Try.prog w' = .ok (.agg C) w' := fun w' h => HM.out w' b h
  have hr : ∀ w', rowAt w' b = some C → (ldAt 25 (.pointer (some ⟨b, 8, none⟩))).run Try.prog w' = .ok (.agg r.arr) w' := fun w' h => HL.out w' b h
  have hf1 : ∀ w' : World, rowAt w' b = some C → w'.cell? ⟨b, 1, none⟩ = some (.int .i64 d) := fun w' h => (rowAt_cell h 1).trans hc1
  have hf3 : ∀ w' : World, rowAt w' b = some C → w'.cell? ⟨b, 3, none⟩ = some (.int .i64 3) := fun w' h => (rowAt_cell h 3).trans hc3
  generalize w.alloc (.cells C 76) = w1 at *
  go_region_held3 (fun w' => rowAt w' b = some C) (assumption) (first | (go_at_call 11; refine ((H1 _).out).mono ?_; rintro e w' ⟨rfl, hb1⟩; have hB1 := rowAt_below (by assumption) hb1 rfl; have HB1 := Lib.hid (below_step HBB.out hb1 rfl rfl rfl rfl); replace HBB := HB1; clear HB1 hb1) | (go_at_call 78; refine ((H2 _).out).mono ?_; rintro e w' ⟨rfl, hb2⟩; have hB2 := rowAt_below (by assumption) hb2 rfl; have HB2 := Lib.hid (below_step HBB.out hb2 rfl rfl rfl rfl); replace HBB := HB2; clear HB2 hb2))
  all_goals
    go_wp2
    go_ret
    exact ⟨congrArg (fun z => Ending.returned (.int .u64 z)) HK.out, HBB.out⟩
end Go.Proofs.Ytpjfjdncdiemlaa
