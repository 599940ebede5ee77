import Derived.Test.YtapcapcbndooiaaRows
import Derived.WalkKit
import Derived.ProofKit
import Derived.OpenShut
import Derived.Deep.QuietTactic
import Derived.BigQuiet
import Derived.Outline
import Derived.WalkSmall
import Derived.WalkLawsBesides
import Derived.WalkSpells
import Derived.BigGuardPart
import Derived.RegionTactic
import Derived.Deep.RegionHeld3
import Derived.Lib.Hide
import Derived.Deep.OwnRows
import Derived.Test.YtapcapcbndooiaaKnownH
import Derived.Test.YtapcapcbndooiaaNewK
import Derived.Test.YtapcapcbndooiaaSlot2
import Derived.Test.YtapcapcbndooiaaObject
import Derived.StillTailTactics
import Derived.Test.YtapcapcbndooiaaHeap
import Derived.Test.YtapcapcbndooiaaMon
import Derived.Maps.AppendAt
import Derived.Deep.AppendLies
import Derived.Below
namespace Go.Proofs.Ytapcapcbndooiaa
open Go.ChangeShapes Go.WideShapes Go.ChangeAt Go.RowKit
set_option linter.unusedVariables false
theorem HeapAt.c1 {w : World} {h n : Nat} {wd us : Int} (g : HeapAt w h wd us n) : w.cell? ⟨h, 1, none⟩ = some (.int .i64 us) := g.2.2.1
set_option maxRecDepth 1000000 in
set_option maxHeartbeats 4000000 in
theorem rooms_c (b off len cap : Nat) (zs : List Int) (wd : Int) (w : World) (h2 : len ≤ 200) (hz : len ≤ zs.length) (d0 : 0 ≤ wd) (d1 : wd ≤ 65536)
    (hb : b < w.heap.size) (hc : ∀ j, j < len → w.cell? ⟨b, off + j, none⟩ = some (.int .i64 (zs.getD j 0)) ∧ -9223372036854775808 ≤ zs.getD j 0 ∧ zs.getD j 0 ≤ 9223372036854775807) :
    Calls Try.prog 9 #[.int .i64 wd, .slice (some ⟨b, off, none⟩) len cap] w fun e w' => e = .returned (.bool true) ∧ Below w.heap.size w w' := by
  have HC := Lib.hid hc
  have HB := Lib.hid hb
  have dl : decide ((200 : Int) < (len : Int)) = false := decide_eq_false (by omega)
  clear hc
  go_enter Try.func9, Try.ntmps9
  go_wp2_with (first | (go_at_call 42; refine (known_h _).mono ?_; rintro e w1 ⟨rfl, hb1⟩; have HB1 := Lib.hid hb1; clear hb1) | (go_at_call 43; refine (new_p wd _ d0 d1).mono ?_; rintro e w2 ⟨h, rfl, hw, hh, c0, c1, c2, z1, z2, hb2⟩; have HB2 := Lib.hid (HB1.out.trans (hb2.mono HB1.out.size)); have hwh : w.heap.size ≤ h := Nat.le_trans HB1.out.size hw; have HA2 : Hid (HeapAt _ h wd 0 0) := Lib.hid ⟨hh, c0, c1, z1, z2, _, _, c2, World.ownsRow_nil _ _ _ _⟩; clear hb2 c0 c1 c2 z1 z2))
  go_loopw [4, 7, 8, 9] (fun r l n i wr => r = .bool false ∧ ∃ (L : Int) (k j : Nat), l = .int .i64 L ∧ n = .int .i64 k ∧ i = .int .i64 j ∧ 0 ≤ L ∧ L ≤ wd ∧ k ≤ j ∧ j ≤ len ∧ Hid (HeapAt wr h wd (wd - L) k) ∧ Hid (Below w.heap.size w wr)) (fun _ _ _ i _ => len - (intOf i).toNat)
  case atStart => exact ⟨rfl, wd, 0, 0, rfl, rfl, rfl, by omega, by omega, by omega, by omega, by rw [Int.sub_self]; exact HA2, HB2⟩
  case round =>
    obtain ⟨rfl, L, k, j, rfl, rfl, rfl, l0, l1, hkj, hj, HA, HBr⟩ := hrel
    by_cases hlt : j < len
    · obtain ⟨z, HZ⟩ : ∃ z : Int, Hid (z = zs.getD j 0) := ⟨_, Lib.hid rfl⟩
      obtain ⟨hc0, hc1, hc2⟩ := HC.out j hlt
      rw [← HZ.out] at hc0 hc1 hc2
      have hcx : wr.cell? ⟨b, off + j, none⟩ = some (.int .i64 z) := (HBr.out.cell (p := ⟨b, _, none⟩) HB.out).trans hc0
      have hbr := HBr.out.size
      clear hc0
      by_cases hy : 0 ≤ z ∧ z ≤ L - 3
      · obtain ⟨y0, y1⟩ := hy
        obtain ⟨n, rfl⟩ := Int.eq_ofNat_of_zero_le y0
        go_wp2_with (first | (go_at_call 44; refine (array_y h 2 n k wd (wd - L) _ rfl (by omega) d0 d1 (by omega) (by omega) (by omega) HA).mono ?_; rintro e w3 ⟨rfl, ha3, hb3⟩; have hc3 := (hb3.cell (p := ⟨b, off + j, none⟩) (by show b < h; omega)).trans hcx; have HB3 := Lib.hid (HBr.out.trans (hb3.mono hwh)); have hus : wd - L + (3 + (n : Int)) = wd - (L - 3 - n) := (by omega); rw [hus] at ha3; have HA3 := Lib.hid ha3; clear ha3 hb3 hus) | (go_at_call 45; refine (used_c h 0 0 (wd - (L - 3 - n)) _ HA3.out.c1).mono ?_; rintro e w' ⟨rfl, rfl⟩) | (go_at_call 46; refine (objects_c h (k + 1) wd (wd - (L - 3 - n)) _ HA3 (by omega)).mono ?_; rintro e w' ⟨rfl, rfl⟩))
        go_roundw
        case rel => exact ⟨rfl, L - 3 - n, k + 1, j + 1, rfl, by go_num, by go_num, by omega, by omega, by omega, by omega, HA3, HB3⟩
        case measure => simp [intOf]; omega
      · by_cases hneg : z < 0
        · have dz : decide (0 ≤ z) = false := decide_eq_false (by omega)
          clear hy
          go_wp2_with (first | (go_at_call 44; refine (array_n h k 2 z wd (wd - L) _ (by omega) d0 d1 (by omega) (by omega) hc1 hc2 (by omega) HA).mono ?_; rintro e w3 ⟨rfl, q, rfl⟩; have hc3 : (wr.drewN q).cell? ⟨b, off + j, none⟩ = some (.int .i64 z) := hcx; have HB3 := Lib.hid (below_drewN HBr.out q); have HA3 := Lib.hid (HA.out.drewN q)) | (go_at_call 45; refine (used_c h 0 0 (wd - L) _ HA3.out.c1).mono ?_; rintro e w' ⟨rfl, rfl⟩) | (go_at_call 46; refine (objects_c h k wd (wd - L) _ HA3 (by omega)).mono ?_; rintro e w' ⟨rfl, rfl⟩))
          go_roundw
          case rel => exact ⟨rfl, L, k, j + 1, rfl, rfl, by go_num, by omega, by omega, by omega, by omega, HA3, HB3⟩
          case measure => simp [intOf]; omega
        · have dz : decide (z ≤ L - 3) = false := decide_eq_false (by omega)
          have hz3 : L - 3 < z := by omega
          clear hy
          go_wp2_with (first | (go_at_call 44; refine (array_n h k 2 z wd (wd - L) _ (by omega) d0 d1 (by omega) (by omega) hc1 hc2 (by omega) HA).mono ?_; rintro e w3 ⟨rfl, q, rfl⟩; have hc3 : (wr.drewN q).cell? ⟨b, off + j, none⟩ = some (.int .i64 z) := hcx; have HB3 := Lib.hid (below_drewN HBr.out q); have HA3 := Lib.hid (HA.out.drewN q)) | (go_at_call 45; refine (used_c h 0 0 (wd - L) _ HA3.out.c1).mono ?_; rintro e w' ⟨rfl, rfl⟩) | (go_at_call 46; refine (objects_c h k wd (wd - L) _ HA3 (by omega)).mono ?_; rintro e w' ⟨rfl, rfl⟩))
          go_roundw
          case rel => exact ⟨rfl, L, k, j + 1, rfl, rfl, by go_num, by omega, by omega, by omega, by omega, HA3, HB3⟩
          case measure => simp [intOf]; omega
    · obtain rfl : j = len := by omega
      go_wp2
      refine bodyPost_ret (v := .bool true) (by simp [results, Try.results9, go_sem]) rfl ⟨rfl, HBr.out⟩
end Go.Proofs.Ytapcapcbndooiaa
