import Derived.Test.YtnchckbgdekfbaaRows
import Derived.Test.YtnchckbgdekfbaaMath
import Derived.Test.YtnchckbgdekfbaaArith
import Derived.Test.YtnchckbgdekfbaaHexMath
import Derived.Test.YtnchckbgdekfbaaReadMath
import Derived.WalkKit
import Derived.ProofKit
import Derived.OpenShut
import Derived.Deep.QuietTactic
import Derived.BigQuiet
import Derived.StillTailTactics
import Derived.Outline
import Derived.Lib.Hide
namespace Go.Proofs.Ytnchckbgdekfbaa
open Go.ChangeShapes Go.WideShapes Go.ChangeAt Go.RowKit
set_option linter.unusedVariables false

theorem ret_rd {a b : Int} {c : Bool} (h : a = b) : Ending.returned (.tuple #[.int .u64 a, .bool c]) = .returned (.tuple #[.int .u64 b, .bool c]) := by rw [h]
theorem digit_y (c : Int) (w : World) (h0 : 0 ≤ c) (h1 : c < 256) (h : isD c = true) : Calls Try.prog 37 #[.int .u8 c] w fun e w' => e = .returned (.tuple #[.int .u64 (digN c), .bool true]) ∧ w = w' := by
  have HD := Lib.hid (show digN c = if 48 ≤ c ∧ c ≤ 57 then c - 48 else if 97 ≤ c ∧ c ≤ 102 then c - 87 else if 65 ≤ c ∧ c ≤ 70 then c - 55 else 0 from rfl)
  have hh : (48 ≤ c ∧ c ≤ 57) ∨ (97 ≤ c ∧ c ≤ 102) ∨ (65 ≤ c ∧ c ≤ 70) := by unfold isD at h; simp at h; omega
  clear h
  rcases hh with ⟨a, b⟩ | ⟨a, b⟩ | ⟨a, b⟩
  · rw [if_pos ⟨a, b⟩] at HD
    go_enter Try.func37, Try.ntmps37
    go_wp2
    go_ret2
    exact ⟨ret_rd HD.out.symm, rfl⟩
  · rw [if_neg (by omega), if_pos ⟨a, b⟩] at HD
    have hd : decide (c ≤ 57) = false := decide_eq_false (by omega)
    go_enter Try.func37, Try.ntmps37
    go_wp2
    go_ret2
    exact ⟨ret_rd (by rw [HD.out]; try omega), rfl⟩
  · rw [if_neg (by omega), if_neg (by omega), if_pos ⟨a, b⟩] at HD
    have hd : decide (c ≤ 57) = false := decide_eq_false (by omega)
    have hd2 : decide (97 ≤ c) = false := decide_eq_false (by omega)
    go_enter Try.func37, Try.ntmps37
    go_wp2
    go_ret2
    exact ⟨ret_rd (by rw [HD.out]; try omega), rfl⟩
theorem digit_n (c : Int) (w : World) (h0 : 0 ≤ c) (h1 : c < 256) (h : isD c = false) : Calls Try.prog 37 #[.int .u8 c] w fun e w' => e = .returned (.tuple #[.int .u64 0, .bool false]) ∧ w = w' := by
  have hh : ¬ ((48 ≤ c ∧ c ≤ 57) ∨ (97 ≤ c ∧ c ≤ 102) ∨ (65 ≤ c ∧ c ≤ 70)) := by unfold isD at h; simp at h; omega
  clear h
  go_enter Try.func37, Try.ntmps37
  go_wp2
  all_goals (go_ret2; exact ⟨rfl, rfl⟩)
theorem within_c (v lo hi : Int) (b : Bool) (w : World) (h : b = decide (lo ≤ v ∧ v ≤ hi)) : Calls Try.prog 34 #[.int .i64 v, .int .i64 lo, .int .i64 hi] w fun e w' => e = .returned (.bool b) ∧ w = w' := by
  have H := Lib.hid h
  clear h
  by_cases h1 : lo ≤ v
  · by_cases h2 : v ≤ hi
    · go_enter Try.func34, Try.ntmps34
      go_wp2
      go_ret
      exact ⟨ret_bool (by rw [H.out]; simp; omega), rfl⟩
    · have hd : decide (v ≤ hi) = false := decide_eq_false h2
      go_enter Try.func34, Try.ntmps34
      go_wp2
      go_ret
      exact ⟨ret_bool (by rw [H.out]; simp; omega), rfl⟩
  · have hd : decide (lo ≤ v) = false := decide_eq_false h1
    go_enter Try.func34, Try.ntmps34
    go_wp2
    go_ret
    exact ⟨ret_bool (by rw [H.out]; simp; omega), rfl⟩
def ReadPost (s : ByteArray) (w : World) (e : Ending) (w' : World) : Prop :=
  w = w' ∧ ((ReadOk s ∧ e = .returned (.tuple #[.int .u64 (val (chr s) s.size), .bool true])) ∨ (¬ ReadOk s ∧ e = .returned (.tuple #[.int .u64 0, .bool false])))
theorem ReadOk.stop {s : ByteArray} {k : Nat} (hk : k < s.size) (h : isD (chr s k) = false) : ¬ ReadOk s := fun ⟨_, _, g⟩ => by
  have := g k hk; rw [h] at this; cases this
set_option maxHeartbeats 1000000 in
theorem read_c (s : ByteArray) (w : World) (hs : s.size ≤ maxLen) : Calls Try.prog 25 #[.string s] w (ReadPost s w) := by
  unfold maxLen at hs
  by_cases hn : 1 ≤ s.size ∧ s.size ≤ 16
  · obtain ⟨n1, n2⟩ := hn
    have hd1 : decide ((s.size : Int) ≤ 16) = true := decide_eq_true (by omega)
    have hd2 : decide (s.size ≤ 16) = true := decide_eq_true (by omega)
    go_enter Try.func25, Try.ntmps25
    go_wp2_with (go_at_call 34; refine (within_c _ _ _ true _ (decide_eq_true (by omega)).symm).mono ?_; rintro e w' ⟨rfl, rfl⟩)
    go_loop [2, 3, 4, 14] (fun _ _ v i => ∃ k : Nat, k ≤ s.size ∧ Hid (∀ j, j < k → isD (chr s j) = true) ∧ i = .int .i64 k ∧ v = .int .u64 (val (chr s) k)) (fun _ _ _ i => s.size - (intOf i).toNat)
    case atStart => exact ⟨0, by omega, Lib.hid (fun j hj => by omega), rfl, rfl⟩
    case round =>
      obtain ⟨k, hk, HK, rfl, rfl⟩ := hrel
      by_cases hlt : k < s.size
      · have hc := chr_eq s k hlt
        have hcr := chr_range s k
        have hv := val_top (chr s) k (by omega)
        have hdr := digN_range (chr s k)
        have hor := or_dig (val (chr s) k) (digN (chr s k)) hv.1 hv.2 hdr.1 hdr.2
        clear hdr
        rcases hd : isD (chr s k)
        · have HD := Lib.hid hd
          go_wp2_with (go_at_call 37; refine (digit_n _ _ (by omega) (by omega) HD.out).mono ?_; rintro e w' ⟨rfl, rfl⟩)
          go_ret2
          exact ⟨rfl, Or.inr ⟨ReadOk.stop hlt HD.out, rfl⟩⟩
        · have HD := Lib.hid hd
          clear hd
          go_wp2_with (go_at_call 37; refine (digit_y _ _ (by omega) (by omega) HD.out).mono ?_; rintro e w' ⟨rfl, rfl⟩)
          go_round
          case rel => exact ⟨k + 1, by omega, Lib.hid (fun j hj => by
            rcases Nat.lt_or_ge j k with h1 | h1
            · exact HK.out j h1
            · obtain rfl : j = k := by omega
              exact HD.out), by go_num, rfl⟩
          case measure => simp [intOf]; omega
      · obtain rfl : k = s.size := by omega
        go_wp2
        go_ret2
        exact ⟨rfl, Or.inl ⟨⟨n1, n2, HK.out⟩, rfl⟩⟩
  · have HN : Hid (¬ ReadOk s) := Lib.hid (fun ⟨a, b, _⟩ => hn ⟨a, b⟩)
    rcases Nat.lt_or_ge s.size 1 with h1 | h1
    · have hz : s.size = 0 := by omega
      clear hn
      go_enter Try.func25, Try.ntmps25
      go_wp2_with (go_at_call 34; refine (within_c _ _ _ false _ (decide_eq_false (by omega)).symm).mono ?_; rintro e w' ⟨rfl, rfl⟩)
      go_ret2
      exact ⟨rfl, Or.inr ⟨HN.out, rfl⟩⟩
    · have h2 : 16 < s.size := by omega
      clear hn
      have hd1 : decide ((s.size : Int) ≤ 16) = false := decide_eq_false (by omega)
      have hd2 : decide (s.size ≤ 16) = false := decide_eq_false (by omega)
      go_enter Try.func25, Try.ntmps25
      go_wp2_with (go_at_call 34; refine (within_c _ _ _ false _ (decide_eq_false (by omega)).symm).mono ?_; rintro e w' ⟨rfl, rfl⟩)
      go_ret2
      exact ⟨rfl, Or.inr ⟨HN.out, rfl⟩⟩
set_option maxHeartbeats 2000000 in
theorem rread_c (s : ByteArray) (w : World) (hs : s.size ≤ maxLen) : Calls Try.prog 26 #[.string s] w (ReadPost s w) := by
  unfold maxLen at hs
  by_cases hn : 1 ≤ s.size ∧ s.size ≤ 16
  · obtain ⟨n1, n2⟩ := hn
    have hd1 : decide (16 < (s.size : Int)) = false := decide_eq_false (by omega)
    have hd2 : decide (16 < s.size) = false := decide_eq_false (by omega)
    go_enter Try.func26, Try.ntmps26
    go_wp2
    go_loop [2, 3, 4, 5] (fun _ _ v i => ∃ k : Nat, k ≤ s.size ∧ Hid (∀ j, j < k → isD (chr s j) = true) ∧ i = .int .i64 k ∧ v = .int .u64 (val (chr s) k)) (fun _ _ _ i => s.size - (intOf i).toNat)
    case atStart => exact ⟨0, by omega, Lib.hid (fun j hj => by omega), rfl, rfl⟩
    case round =>
      obtain ⟨k, hk, HK, rfl, rfl⟩ := hrel
      by_cases hlt : k < s.size
      · obtain ⟨c, hc, HC⟩ : ∃ c : Int, ((s[k]'hlt).toNat : Int) = c ∧ Hid (c = chr s k) := ⟨_, rfl, Lib.hid (chr_eq s k hlt)⟩
        have hcr : 0 ≤ c ∧ c < 256 := by rw [HC.out]; exact chr_range s k
        have hv := val_top (chr s) k (by omega)
        have hdr := digN_range c
        have hor := or_dig (val (chr s) k) (digN c) hv.1 hv.2 hdr.1 hdr.2
        have HV : Hid (val (chr s) (k + 1) = val (chr s) k * 16 + digN c) := Lib.hid (by rw [HC.out]; rfl)
        have HDN : Hid (digN c = if 48 ≤ c ∧ c ≤ 57 then c - 48 else if 97 ≤ c ∧ c ≤ 102 then c - 87 else if 65 ≤ c ∧ c ≤ 70 then c - 55 else 0) := Lib.hid rfl
        have HID : Hid (isD c = (decide (48 ≤ c ∧ c ≤ 57) || decide (97 ≤ c ∧ c ≤ 102) || decide (65 ≤ c ∧ c ≤ 70))) := Lib.hid rfl
        have HK2 : isD c = true → Hid (∀ j, j < k + 1 → isD (chr s j) = true) := fun h => Lib.hid (fun j hj => by
            rcases Nat.lt_or_ge j k with h1 | h1
            · exact HK.out j h1
            · obtain rfl : j = k := by omega
              rw [← HC.out]; exact h)
        have HK3 := Lib.hid HK2
        have HOR := Lib.hid hor
        have HV2 := Lib.hid hv
        clear HK2 hor hdr
        by_cases g1 : 48 ≤ c ∧ c ≤ 57
        · have HE := HDN.out
          rw [if_pos g1] at HE
          have HO := HOR.out
          rw [HE] at HO
          have HE := Lib.hid HE
          go_wp2
          go_round
          case rel => exact ⟨k + 1, by omega, HK3.out (by rw [HID.out]; simp; omega), by go_num, by rw [HV.out, HE.out]⟩
          case measure => simp [intOf]; omega
        · by_cases g2 : 97 ≤ c ∧ c ≤ 102
          · have HE := HDN.out
            rw [if_neg g1, if_pos g2] at HE
            have HO := HOR.out
            rw [HE] at HO
            have HE := Lib.hid HE
            have hda : decide (c ≤ 57) = false := decide_eq_false (by omega)
            go_wp2
            go_round
            case rel => exact ⟨k + 1, by omega, HK3.out (by rw [HID.out]; simp; omega), by go_num, by rw [HV.out, HE.out, show c - 97 + 10 = c - 87 by omega, HO]⟩
            case measure => simp [intOf]; omega
          · by_cases g3 : 65 ≤ c ∧ c ≤ 70
            · have HE := HDN.out
              rw [if_neg g1, if_neg g2, if_pos g3] at HE
              have HO := HOR.out
              rw [HE] at HO
              have HE := Lib.hid HE
              have hda : decide (c ≤ 57) = false := decide_eq_false (by omega)
              have hdb : decide (97 ≤ c) = false := decide_eq_false (by omega)
              go_wp2
              go_round
              case rel => exact ⟨k + 1, by omega, HK3.out (by rw [HID.out]; simp; omega), by go_num, by rw [HV.out, HE.out, show c - 65 + 10 = c - 55 by omega, HO]⟩
              case measure => simp [intOf]; omega
            · have HNO : Hid (isD c = false) := Lib.hid (by rw [HID.out]; simp; omega)
              have HST : Hid (¬ ReadOk s) := Lib.hid (ReadOk.stop hlt (by rw [← HC.out]; exact HNO.out))
              go_wp2
              all_goals (go_ret2; exact ⟨rfl, Or.inr ⟨HST.out, rfl⟩⟩)
      · obtain rfl : k = s.size := by omega
        go_wp2
        go_ret2
        exact ⟨rfl, Or.inl ⟨⟨n1, n2, HK.out⟩, rfl⟩⟩
  · have HN : Hid (¬ ReadOk s) := Lib.hid (fun ⟨a, b, _⟩ => hn ⟨a, b⟩)
    rcases Nat.lt_or_ge s.size 1 with h1 | h1
    · have hz : s.size = 0 := by omega
      clear hn
      go_enter Try.func26, Try.ntmps26
      go_wp2
      go_ret2
      exact ⟨rfl, Or.inr ⟨HN.out, rfl⟩⟩
    · have h2 : 16 < s.size := by omega
      clear hn
      go_enter Try.func26, Try.ntmps26
      go_wp2
      go_ret2
      exact ⟨rfl, Or.inr ⟨HN.out, rfl⟩⟩
end Go.Proofs.Ytnchckbgdekfbaa
