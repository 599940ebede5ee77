import Derived.Test.YtapcapcbndooiaaRows
import Derived.WalkKit
import Derived.ProofKit
import Derived.OpenShut
import Derived.Deep.QuietTactic
import Derived.BigQuiet
import Derived.Outline
import Derived.WalkSmall
import Derived.WalkLawsBesides
import Derived.WalkSpells
import Derived.BigGuardPart
import Derived.RegionTactic
import Derived.Deep.RegionHeld3
import Derived.Lib.Hide
import Derived.Deep.OwnRows
import Derived.Maps.AppendAt
import Derived.Deep.AppendLies
import Derived.Below
import Derived.Test.YtapcapcbndooiaaFind
import Derived.Test.YtapcapcbndooiaaOrs
namespace Go.Proofs.Ytapcapcbndooiaa
open Go.ChangeShapes Go.WideShapes Go.ChangeAt Go.RowKit
set_option linter.unusedVariables false
def MemAt (w : World) (mb ab n cap : Nat) (A S : Nat → Nat) (W X : Nat → Bool) (B : Nat → Nat) : Prop := small A S n ∧ w.cell? ⟨mb, 0, none⟩ = some (.slice (some ⟨ab, 0, none⟩) n cap) ∧ AreaAt w ab n A S W X B
theorem MemAt.drewN {w : World} {mb ab n cap : Nat} {A S : Nat → Nat} {W X : Nat → Bool} {B : Nat → Nat} (h : MemAt w mb ab n cap A S W X B) (q : Nat) : MemAt (w.drewN q) mb ab n cap A S W X B := ⟨h.1, h.2.1, h.2.2.drewN q⟩
set_option maxRecDepth 100000 in
set_option maxHeartbeats 2000000 in
theorem byte_y (mb ab n cap k o a : Nat) (c : Int) (A S : Nat → Nat) (W X : Nat → Bool) (B : Nat → Nat) (w : World) (hk : k < n) (hpre : ∀ j, j < k → ¬ inA A S j a) (HO : Hid (a = A k + o)) (ho : o < S k) (hc : w.cell? ⟨B k, o, none⟩ = some (.int .u8 c)) (HM : Hid (MemAt w mb ab n cap A S W X B)) :
    Calls Try.prog 39 #[.pointer (some ⟨mb, 0, none⟩), .int .u64 a] w fun e w' => e = .returned (.tuple #[.int .u8 c, .int .i64 0]) ∧ ∃ q, w' = w.drewN q := by
  have HP := Lib.hid hpre
  have hcm := HM.out.2.1
  have HA := Lib.hid HM.out.2.2
  clear hpre
  go_enter Try.func39, Try.ntmps39
  go_wp2_with (go_at_call 100; refine (stretch_y ab n cap k o 1 a A S W X B _ HM.out.1 hk HP.out HO (by omega) (by omega) HA).mono ?_; rintro e w' ⟨rfl, q, rfl⟩)
  refine bodyPost_ret (v := .tuple #[.int .u8 c, .int .i64 0]) (by simp [results, Try.results39, go_sem]) rfl ⟨rfl, _, rfl⟩
set_option maxRecDepth 100000 in
set_option maxHeartbeats 2000000 in
theorem byte_n (mb ab n cap a : Nat) (A S : Nat → Nat) (W X : Nat → Bool) (B : Nat → Nat) (w : World) (ha : a < 18446744073709551616) (hpre : ∀ j, j < n → ¬ inA A S j a) (HM : Hid (MemAt w mb ab n cap A S W X B)) :
    Calls Try.prog 39 #[.pointer (some ⟨mb, 0, none⟩), .int .u64 a] w fun e w' => e = .returned (.tuple #[.int .u8 0, .int .i64 8]) ∧ ∃ q, w' = w.drewN q := by
  have HP := Lib.hid hpre
  have hcm := HM.out.2.1
  have HA := Lib.hid HM.out.2.2
  clear hpre
  go_enter Try.func39, Try.ntmps39
  go_wp2_with (go_at_call 100; refine (stretch_n ab n cap 1 a A S W X B _ HM.out.1 ha HP.out HA).mono ?_; rintro e w' ⟨rfl, q, rfl⟩)
  refine bodyPost_ret (v := .tuple #[.int .u8 0, .int .i64 8]) (by simp [results, Try.results39, go_sem]) rfl ⟨rfl, _, rfl⟩

set_option maxRecDepth 100000 in
set_option maxHeartbeats 2000000 in
theorem read_s (mb ab n cap k o a : Nat) (A S : Nat → Nat) (W X : Nat → Bool) (B : Nat → Nat) (w : World) (hk : k < n) (hpre : ∀ j, j < k → ¬ inA A S j a) (HO : Hid (a = A k + o)) (ho : o + 8 ≤ S k) (h8 : a % 8 ≠ 0) (HM : Hid (MemAt w mb ab n cap A S W X B)) :
    Calls Try.prog 94 #[.pointer (some ⟨mb, 0, none⟩), .int .u64 a] w fun e w' => e = .returned (.tuple #[.int .u64 0, .int .i64 8]) ∧ ∃ q, w' = w.drewN q := by
  have HP := Lib.hid hpre
  have hcm := HM.out.2.1
  have HA := Lib.hid HM.out.2.2
  have hd : ¬ (a : Int) % 8 = 0 := by omega
  clear hpre
  go_enter Try.func94, Try.ntmps94
  go_wp2_with (go_at_call 100; refine (stretch_y ab n cap k o 8 a A S W X B _ HM.out.1 hk HP.out HO (by omega) (by omega) HA).mono ?_; rintro e w' ⟨rfl, q, rfl⟩)
  refine bodyPost_ret (v := .tuple #[.int .u64 0, .int .i64 8]) (by simp [results, Try.results94, go_sem]) rfl ⟨rfl, _, rfl⟩
set_option maxRecDepth 100000 in
set_option maxHeartbeats 2000000 in
theorem word_x (mb ab n cap k a : Nat) (A S : Nat → Nat) (W X : Nat → Bool) (B : Nat → Nat) (w : World) (hk : k < n) (ha : a < 18446744073709551616) (hpre : ∀ j, j < k → ¬ inA A S j a) (hin : inA A S k a) (hx : X k = false) (h4 : a % 4 = 0) (HM : Hid (MemAt w mb ab n cap A S W X B)) :
    Calls Try.prog 40 #[.pointer (some ⟨mb, 0, none⟩), .int .u64 a] w fun e w' => e = .returned (.tuple #[.int .u32 0, .int .i64 8]) ∧ ∃ q, w' = w.drewN q := by
  have HP := Lib.hid hpre
  have HI := Lib.hid hin
  have hcm := HM.out.2.1
  have HA := Lib.hid HM.out.2.2
  have hd : (a : Int) % 4 = 0 := by omega
  obtain ⟨f1, f2, f3, f4, f5⟩ := HA.out k hk
  rw [hx] at f4
  clear hpre hin hx f1 f2 f3 f5 h4
  go_enter Try.func40, Try.ntmps40
  go_wp2_with (go_at_call 99; refine (find_y_ ab n cap k a A S W X B _ HM.out.1 hk ha HP.out HI.out HA).mono ?_; rintro e w' ⟨rfl, q, rfl⟩)
  refine bodyPost_ret (v := .tuple #[.int .u32 0, .int .i64 8]) (by simp [results, Try.results40, go_sem]) rfl ⟨rfl, _, rfl⟩
/-! ### Write -/
def byteOf (v j : Nat) : Nat := v / 2 ^ (8 * j) % 256
theorem byteOf_cast (v j : Nat) : ((byteOf v j : Nat) : Int) = (v : Int) / 2 ^ (8 * j) % 256 := by unfold byteOf; rw [Int.natCast_emod, Int.natCast_ediv, Int.natCast_pow]; rfl
def Wrote (w w' : World) (b o v m : Nat) : Prop := Below b w w' ∧ w'.heap.size = w.heap.size ∧ (∀ x, w'.frozen? x = w.frozen? x) ∧ (∀ c p, c ≠ b ∨ p < o ∨ o + m ≤ p → w'.cell? ⟨c, p, none⟩ = w.cell? ⟨c, p, none⟩) ∧ (∀ j, j < m → w'.cell? ⟨b, o + j, none⟩ = some (.int .u8 (byteOf v j : Nat)))
theorem Wrote.zero (w : World) (q b o v : Nat) : Wrote w (w.drewN q) b o v 0 := ⟨below_drewN (Below.refl _ _) q, by simp, fun x => rfl, fun c p _ => rfl, fun j hj => by omega⟩
theorem Wrote.step {w w' : World} {b o v m : Nat} (h : Wrote w w' b o v m) (hc : (w'.cell? ⟨b, o + m, none⟩).isSome) : Wrote w (w'.setCell ⟨b, o + m, none⟩ (.int .u8 (byteOf v m : Nat))) b o v (m + 1) := by
  obtain ⟨h1, h2, h3, h4, h5⟩ := h
  obtain ⟨x, hx⟩ := Option.isSome_iff_exists.1 hc
  refine ⟨h1.setCell (by simp) _, by simpa [World.setCell] using h2, fun y => (World.frozen?_setCell _ _ _ _).trans (h3 y), fun c p hp => ?_, fun j hj => ?_⟩
  · have ne : (⟨b, o + m, none⟩ : Addr) ≠ ⟨c, p, none⟩ := fun g => by injection g with g1 g2; omega
    exact (World.cell?_setCell_other _ _ _ _ ne).trans (h4 c p (by omega))
  · rcases Nat.lt_or_ge j m with k | k
    · have ne : (⟨b, o + m, none⟩ : Addr) ≠ ⟨b, o + j, none⟩ := fun g => by injection g with g1 g2; omega
      exact (World.cell?_setCell_other _ _ _ _ ne).trans (h5 j k)
    · obtain rfl : j = m := by omega
      exact World.cell?_setCell_same _ _ _ hx
set_option maxRecDepth 100000 in
set_option maxHeartbeats 2000000 in
theorem write_y (mb ab n cap k o a v : Nat) (A S : Nat → Nat) (W X : Nat → Bool) (B : Nat → Nat) (w : World) (hk : k < n) (hpre : ∀ j, j < k → ¬ inA A S j a) (HO : Hid (a = A k + o)) (ho : o + 8 ≤ S k) (h8 : a % 8 = 0) (hv : v < 18446744073709551616) (hw : W k = true) (hc : ∀ j, j < 8 → (w.cell? ⟨B k, o + j, none⟩).isSome = true ∧ w.frozen? ⟨B k, o + j, none⟩ = false) (HM : Hid (MemAt w mb ab n cap A S W X B)) :
    Calls Try.prog 38 #[.pointer (some ⟨mb, 0, none⟩), .int .u64 a, .int .u64 v] w fun e w' => e = .returned (.int .i64 0) ∧ Wrote w w' (B k) o v 8 := by
  have HP := Lib.hid hpre
  have HC := Lib.hid hc
  have hcm := HM.out.2.1
  have HA := Lib.hid HM.out.2.2
  have hd : (a : Int) % 8 = 0 := by omega
  obtain ⟨s0, s1, s2⟩ := HM.out.1.2 k hk
  have ha : a < 18446744073709551616 := by have := HO.out; omega
  have HI : Hid (inA A S k a) := Lib.hid (by have := HO.out; unfold inA; omega)
  obtain ⟨f1, f2, f3, f4, f5⟩ := HA.out k hk
  rw [hw] at f3
  clear hpre hw f1 f2 f4 f5 h8 hc
  go_enter Try.func38, Try.ntmps38
  go_wp2_with (first | (go_at_call 99; refine (find_y_ ab n cap k a A S W X B _ HM.out.1 hk ha HP.out HI.out HA).mono ?_; rintro e w' ⟨rfl, q, rfl⟩) | (go_at_call 100; refine (stretch_y ab n cap k o 8 a A S W X B _ HM.out.1 hk HP.out HO (by omega) ho (Lib.hid (HA.out.drewN _))).mono ?_; rintro e w' ⟨rfl, q2, rfl⟩))
  go_loopw [10, 43] (fun _ i wr => ∃ j : Nat, j ≤ 8 ∧ i = .int .i64 j ∧ Hid (Wrote w wr (B k) o v j)) (fun _ i _ => 8 - (intOf i).toNat)
  case atStart => exact ⟨0, by omega, rfl, Lib.hid (Wrote.zero _ _ _ _ _)⟩
  case round =>
    obtain ⟨j, hj, rfl, HW⟩ := hrel
    by_cases hj8 : j < 8
    · have hex : wr.frozen? ⟨B k, o + j, none⟩ = false := by rw [HW.out.2.2.1]; exact (HC.out j hj8).2
      obtain ⟨y, hy⟩ : ∃ y, wr.cell? ⟨B k, o + j, none⟩ = some y := Option.isSome_iff_exists.1 (by rw [HW.out.2.2.2.1 _ _ (by omega)]; exact (HC.out j hj8).1)
      have HY : Hid ((wr.cell? ⟨B k, o + j, none⟩).isSome = true) := Lib.hid (by rw [hy]; rfl)
      have gj : (j : Int) < 8 := by omega
      go_wp2
      refine ⟨⟨j + 1, by omega, by simp, Lib.hid ?_⟩, by simp [intOf]; omega⟩
      have := HW.out.step HY.out
      rw [byteOf_cast] at this
      exact this
    · obtain rfl : j = 8 := by omega
      go_wp2
      go_ret
      exact ⟨rfl, HW.out⟩
/-! ### Word -/
set_option maxRecDepth 100000 in
set_option maxHeartbeats 2000000 in
theorem word_y (mb ab n cap k o a : Nat) (c0 c1 c2 c3 : Nat) (A S : Nat → Nat) (W X : Nat → Bool) (B : Nat → Nat) (w : World) (hk : k < n) (hpre : ∀ j, j < k → ¬ inA A S j a) (HO : Hid (a = A k + o)) (ho : o + 4 ≤ S k) (h4 : a % 4 = 0) (hx : X k = true) (b0 : c0 < 256) (b1 : c1 < 256) (b2 : c2 < 256) (b3 : c3 < 256) (e0 : w.cell? ⟨B k, o, none⟩ = some (.int .u8 (c0 : Nat))) (e1 : w.cell? ⟨B k, o + 1, none⟩ = some (.int .u8 (c1 : Nat))) (e2 : w.cell? ⟨B k, o + 2, none⟩ = some (.int .u8 (c2 : Nat))) (e3 : w.cell? ⟨B k, o + 3, none⟩ = some (.int .u8 (c3 : Nat))) (HM : Hid (MemAt w mb ab n cap A S W X B)) :
    Calls Try.prog 40 #[.pointer (some ⟨mb, 0, none⟩), .int .u64 a] w fun e w' => e = .returned (.tuple #[.int .u32 (c0 + 256 * c1 + 65536 * c2 + 16777216 * c3 : Nat), .int .i64 0]) ∧ ∃ q, w' = w.drewN q := by
  have HP := Lib.hid hpre
  have hcm := HM.out.2.1
  have HA := Lib.hid HM.out.2.2
  have hd : (a : Int) % 4 = 0 := by omega
  obtain ⟨s0, s1, s2⟩ := HM.out.1.2 k hk
  have ha : a < 18446744073709551616 := by have := HO.out; omega
  have HI : Hid (inA A S k a) := Lib.hid (by have := HO.out; unfold inA; omega)
  obtain ⟨f1, f2, f3, f4, f5⟩ := HA.out k hk
  rw [hx] at f4
  clear hpre hx f1 f2 f3 f5 h4
  go_enter Try.func40, Try.ntmps40
  go_wp2_with (first | (go_at_call 99; refine (find_y_ ab n cap k a A S W X B _ HM.out.1 hk ha HP.out HI.out HA).mono ?_; rintro e w' ⟨rfl, q, rfl⟩) | (go_at_call 100; refine (stretch_y ab n cap k o 4 a A S W X B _ HM.out.1 hk HP.out HO (by omega) ho (Lib.hid (HA.out.drewN _))).mono ?_; rintro e w' ⟨rfl, q2, rfl⟩))
  go_quiet (fail)
  go_wp2
  refine bodyPost_ret (v := .tuple #[.int .u32 (bits BinOp.or IntKind.u32 (bits BinOp.or IntKind.u32 (bits BinOp.or IntKind.u32 (c0 : Int) ((c1 : Int) * 256)) ((c2 : Int) * 65536)) ((c3 : Int) * 16777216)), .int .i64 0]) (by simp [results, Try.results40, go_sem]) rfl ⟨by rw [word_of _ _ _ _ b0 b1 b2 b3], _, World.drewN_drewN _ _ _⟩
end Go.Proofs.Ytapcapcbndooiaa
