import Derived.Test.YtapcapcbndooiaaRows
import Derived.WalkKit
import Derived.ProofKit
import Derived.OpenShut
import Derived.Deep.QuietTactic
import Derived.BigQuiet
import Derived.Outline
import Derived.WalkSmall
import Derived.WalkLawsBesides
import Derived.WalkSpells
import Derived.BigGuardPart
import Derived.RegionTactic
import Derived.Deep.RegionHeld3
import Derived.Lib.Hide
import Derived.Deep.OwnRows
import Derived.Maps.AppendAt
import Derived.Deep.AppendLies
import Derived.Below
import Derived.Test.YtapcapcbndooiaaKnownM
namespace Go.Proofs.Ytapcapcbndooiaa
open Go.ChangeShapes Go.WideShapes Go.ChangeAt Go.RowKit
set_option linter.unusedVariables false
theorem bytes_lo (v : Nat) : byteOf v 0 + 256 * byteOf v 1 + 65536 * byteOf v 2 + 16777216 * byteOf v 3 = v % 4294967296 := by
  have e0 : byteOf v 0 = v / 1 % 256 := rfl
  have e1 : byteOf v 1 = v / 256 % 256 := rfl
  have e2 : byteOf v 2 = v / 65536 % 256 := rfl
  have e3 : byteOf v 3 = v / 16777216 % 256 := rfl
  rw [e0, e1, e2, e3]; omega
theorem bytes_hi (v : Nat) (h : v < 18446744073709551616) : byteOf v 4 + 256 * byteOf v 5 + 65536 * byteOf v 6 + 16777216 * byteOf v 7 = v / 4294967296 := by
  have e0 : byteOf v 4 = v / 4294967296 % 256 := rfl
  have e1 : byteOf v 5 = v / 1099511627776 % 256 := rfl
  have e2 : byteOf v 6 = v / 281474976710656 % 256 := rfl
  have e3 : byteOf v 7 = v / 72057594037927936 % 256 := rfl
  rw [e0, e1, e2, e3]; omega
set_option maxRecDepth 100000 in
set_option maxHeartbeats 4000000 in
theorem bytes_w (at0 v : Nat) (w : World) (ha : at0 < 18446744073709551616) (hv : v < 18446744073709551616) : Calls Try.prog 7 #[.int .u64 at0, .int .u64 v] w fun e w' => e = .returned (.bool true) ∧ Below w.heap.size w w' := by
  obtain ⟨o, ho⟩ : ∃ o, o = at0 % 64 * 8 := ⟨_, rfl⟩
  obtain ⟨y, hy⟩ : ∃ y, y = 4096 + o := ⟨_, rfl⟩
  have hyi : (4096 : Int) + (at0 : Int) % 64 * 8 = (y : Int) := by omega
  have ho8 : o + 8 ≤ 512 := by omega
  have hy8 : y % 8 = 0 := by omega
  have hyl : y ≤ 8192 := by omega
  have HO := Lib.hid hy
  clear hy ho
  go_enter Try.func7, Try.ntmps7
  go_wp2_with (first | (go_at_call 36; refine (known_m _).mono ?_; rintro e w0 ⟨rfl, hB⟩; have HB0 := Lib.hid hB; clear hB) | (go_at_call 37; refine (one_new 4096 512 true true _ (by omega) (by omega) (by omega) (by omega) (by omega)).mono ?_; rintro e w1 ⟨mb, ab, cap, B, rfl, hN, hB⟩; have HN := Lib.hid hN; have HB1 := Lib.hid (HB0.out.trans (hB.mono HB0.out.size)); clear hN hB))
  refine (o_write HN y o v HO.out ho8 hy8 hv).mono ?_
  rintro e w2 ⟨rfl, hW⟩
  have HN2 := Lib.hid (HN.out.wrote (by omega) hW)
  have HB2 := Lib.hid (HB1.out.trans ((HN.out.out (by omega) hW).mono HB0.out.size))
  have HC : Hid (∀ j, j < 8 → w2.cell? ⟨B 0, o + j, none⟩ = some (.int .u8 (byteOf v j : Nat))) := Lib.hid hW.2.2.2.2
  clear hW HN HB1 hyi
  go_wp2
  go_loopw [7, 8, 9] (fun k _ _ wr => ∃ j : Nat, j ≤ 8 ∧ k = .int .u64 j ∧ Hid (∃ q, wr = w2.drewN q)) (fun k _ _ _ => 9 - (intOf k).toNat)
  case atStart => exact ⟨0, by omega, rfl, Lib.hid ⟨0, rfl⟩⟩
  case round =>
    obtain ⟨j, hj, rfl, HQ⟩ := hrel
    obtain ⟨q, rfl⟩ := HQ.out
    by_cases hlt : j < 8
    · have hcj := Lib.hid (HC.out j hlt)
      obtain ⟨c, hc⟩ : ∃ c : Int, (v : Int) / 2 ^ (8 * j) % 256 = c := ⟨_, rfl⟩
      have HCC : Hid (w2.cell? ⟨B 0, o + j, none⟩ = some (.int .u8 c)) := Lib.hid (by rw [hcj.out, byteOf_cast, hc])
      go_wp2_with (go_at_call 39; refine (o_byte (Lib.hid (HN2.out.drewN _)) (y + j) (o + j) c (by have := HO.out; omega) (by omega) HCC.out).mono ?_; rintro e w3 ⟨rfl, q3, rfl⟩)
      exact ⟨⟨j + 1, by omega, by simp, Lib.hid ⟨_, rfl⟩⟩, by simp [intOf]; omega⟩
    · obtain rfl : j = 8 := by omega
      obtain ⟨L, hL⟩ : ∃ L, L = v % 4294967296 := ⟨_, rfl⟩
      obtain ⟨H, hH⟩ : ∃ H, H = v / 4294967296 := ⟨_, rfl⟩
      have l1 : L < 4294967296 := by omega
      have l2 : H < 4294967296 := by omega
      have hor : bits BinOp.or IntKind.u64 (L : Int) ((H : Int) * 4294967296) = (v : Int) := by rw [u64_or32 _ _ (by omega) (by omega) (by omega) (by omega)]; omega
      have eL : byteOf v 0 + 256 * byteOf v 1 + 65536 * byteOf v 2 + 16777216 * byteOf v 3 = L := by rw [bytes_lo, hL]
      have eH : byteOf v 4 + 256 * byteOf v 5 + 65536 * byteOf v 6 + 16777216 * byteOf v 7 = H := by rw [bytes_hi v hv, hH]
      have EL := Lib.hid eL
      have EH := Lib.hid eH
      have hor2 := Lib.hid hor
      clear eL eH hL hH
      have y4 : IntKind.u64.wrap ((y : Int) + 4) = (y : Int) + 4 := by rw [IntKind.wrap_u64]; omega
      obtain ⟨y5, hy5⟩ : ∃ y5 : Nat, (y : Int) + 4 = (y5 : Int) := ⟨y + 4, by omega⟩
      have hy6 : Hid (y5 = y + 4) := Lib.hid (by omega)
      have C1 := fun W (hm : Hid (MemNew W w0.heap.size mb ab 1 cap (fun _ => 4096) (fun _ => 512) (fun _ => true) (fun _ => true) B)) (g : ∀ j, j < 8 → W.cell? ⟨B 0, o + j, none⟩ = some (.int .u8 (byteOf v j : Nat))) => o_word hm y o (byteOf v 0) (byteOf v 1) (byteOf v 2) (byteOf v 3) HO.out (by omega) (by omega) (byteOf_lt _ _) (byteOf_lt _ _) (byteOf_lt _ _) (byteOf_lt _ _) (g 0 (by omega)) (g 1 (by omega)) (g 2 (by omega)) (g 3 (by omega))
      have C2 := fun W (hm : Hid (MemNew W w0.heap.size mb ab 1 cap (fun _ => 4096) (fun _ => 512) (fun _ => true) (fun _ => true) B)) (g : ∀ j, j < 8 → W.cell? ⟨B 0, o + j, none⟩ = some (.int .u8 (byteOf v j : Nat))) => o_word hm y5 (o + 4) (byteOf v 4) (byteOf v 5) (byteOf v 6) (byteOf v 7) (by have := hy6.out; have := HO.out; omega) (by omega) (by have := hy6.out; omega) (byteOf_lt _ _) (byteOf_lt _ _) (byteOf_lt _ _) (byteOf_lt _ _) (g 4 (by omega)) (g 5 (by omega)) (g 6 (by omega)) (g 7 (by omega))
      rw [EL.out] at C1
      rw [EH.out] at C2
      have HC1 := Lib.hid C1
      have HC2 := Lib.hid C2
      clear C1 C2
      go_wp2_with fail
      refine (HC1.out _ (Lib.hid (HN2.out.drewN _)) HC.out).mono ?_
      rintro e w3 ⟨rfl, q3, rfl⟩
      go_wp2_with fail
      refine (HC2.out _ (Lib.hid (HN2.out.drewN _)) HC.out).mono ?_
      rintro e w4 ⟨rfl, q4, rfl⟩
      clear hy5 y4
      go_wp2
      refine bodyPost_ret (v := .bool true) (by simp [results, Try.results7, go_sem]) rfl ⟨rfl, ?_⟩
      exact below_drewN HB2.out _
end Go.Proofs.Ytapcapcbndooiaa
