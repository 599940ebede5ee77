import Derived.Test.YtnchckbgdekfbaaRows
import Derived.Test.YtnchckbgdekfbaaMath
import Derived.Test.YtnchckbgdekfbaaArith
import Derived.Test.YtnchckbgdekfbaaHexMath
import Derived.WalkKit
import Derived.ProofKit
import Derived.OpenShut
import Derived.Deep.QuietTactic
import Derived.BigQuiet
import Derived.StillTailTactics
import Derived.Outline
import Derived.Lib.Hide
namespace Go.Proofs.Ytnchckbgdekfbaa
open Go.ChangeShapes Go.WideShapes Go.ChangeAt Go.RowKit
set_option linter.unusedVariables false

def HexPost (v : Int) (D : Nat) (w : World) (e : Ending) (w' : World) : Prop := ∃ k, HexIs v D k ∧ e = .returned (.string ⟨(hexL v k).toArray⟩) ∧ Grown w w'
theorem hex_arr (v : Int) (k n : Nat) (w : World) (hk : k ≤ 15) (hn : (n : Int) = v / 16 ^ k % 16) :
    w.alloc (.cells ((hexA v k).setIfInBounds (16 - k - 1) (.int .u8 (dig (n : Int)))) 50) = w.alloc (.cells (hexA v (k + 1)) 50) := by
  have : 16 - k - 1 = 15 - k := by omega
  rw [this, hn]; rfl
theorem arr50 : Try.prog.arrayLen 50 = 16 := by kernel_rfl
theorem elm50 : Try.prog.elem 50 = 5 := by kernel_rfl
theorem und50 : Try.prog.underlying 50 = some (.array (Try.prog.arrayLen 50) (Try.prog.elem 50)) := by kernel_rfl
theorem siz5 (w : World) : (sizeOf 5).run Try.prog w = .ok 1 w := by kernel_rfl
theorem hex_slice (w : World) (B k : Nat) (h1 : 1 ≤ k) (h : k ≤ 16) :
    (Instr.sliceAt 50 (.pointer (some ⟨B, 0, none⟩)) (some (.int .i64 (16 - (k : Int)))) none none).run Try.prog w = .ok (.slice (some ⟨B, 16 - k, none⟩) k k) w := by
  rw [run_sliceAt_array_l w 50 ⟨B, 0, none⟩ und50 .i64 (16 - (k : Int)) (by omega) (by rw [arr50]; omega), elm50, siz5, arr50]
  have e : (16 - (k : Int)).toNat = 16 - k := by omega
  simp only [Result.andThen, slicedAt, e]
  rw [if_neg (by omega)]
  have e2 : 16 - (16 - k) = k := by omega
  rw [e2]
  simp [Addr.add]; omega
theorem hex_conv (v : Int) (k : Nat) (w : World) (hk : k ≤ 16) :
    (convert 51 9 (.slice (some ⟨w.heap.size, 16 - k, none⟩) k k)).run Try.prog (w.alloc (.cells (hexA v k) 50)) = .ok (.string ⟨(hexL v k).toArray⟩) (w.alloc (.cells (hexA v k) 50)) := by
  have := run_convert_bytes_back (P := Try.prog) (w.alloc (.cells (hexA v k) 50)) 51 9 5 ⟨w.heap.size, 16 - k, none⟩ k (hexL v k) Try.underlying51 Try.underlying5 Try.underlying9 (fun j hj => by
    have ha : (⟨w.heap.size, 16 - k, none⟩ : Addr).add j = ⟨w.heap.size, 16 - k + j, none⟩ := by simp [Addr.add]
    rw [ha, World.cell?_alloc_mark]
    exact hexA_cell v k hk j hj)
  rw [hexL_length] at this
  exact this

set_option maxRecDepth 100000 in
set_option maxHeartbeats 1000000 in
theorem hex_mid (v : Int) (d : Int) (w : World) (h : 0 ≤ v) (h' : v < 18446744073709551616) (hd : 1 < d) (hd' : d ≤ 16) : Calls Try.prog 27 #[.int .u64 v, .int .i64 d] w (HexPost v (d.toNat) w) := by
  obtain ⟨D, HD, hD1, hD2, hDl⟩ : ∃ D : Nat, Hid (D = d.toNat) ∧ 1 ≤ D ∧ D ≤ 16 ∧ (16 - d : Int) = 16 - (D : Int) := ⟨d.toNat, Lib.hid rfl, by omega, by omega, by omega⟩
  have HT := Lib.hid (hex_top v h h')
  have HL := Lib.hid hDl
  clear hDl
  go_enter Try.func27, Try.ntmps27
  go_wp2
  go_loopw [0, 6] (fun t f wr => ∃ (k : Nat) (x : Int), k ≤ 16 ∧ Hid (x = v / 16 ^ k) ∧ HexNot v D k ∧ f = .int .i64 (16 - (k : Int)) ∧ t = .int .u64 x ∧ wr = w.alloc (.cells (hexA v k) 50)) (fun _ f _ => (intOf f).toNat)
  case atStart => exact ⟨0, v, by omega, Lib.hid (by simp), HexNot.zero v D, rfl, rfl, rfl⟩
  case round =>
    obtain ⟨k, x, hk, HX, HN, rfl, rfl, rfl⟩ := hrel
    have hxr := hex_div_range v k h h'
    rw [← HX.out] at hxr
    have hx0 := hxr.1
    have hx1 := hxr.2
    clear hxr
    by_cases hgo : k < D ∨ x ≠ 0
    · have hk15 : k ≤ 15 := by
        rcases Nat.lt_or_ge k 16 with h1 | h1
        · omega
        · obtain rfl : k = 16 := by omega
          have := HX.out; rw [HT.out] at this; omega
      have HN' : HexNot v D (k + 1) := HN.step (by have := HX.out; omega)
      obtain ⟨c, hc⟩ := hexA_get v k (16 - k - 1) (by omega)
      obtain ⟨n, hn, hn1, Hn⟩ : ∃ n : Nat, bits .and .u64 x 15 = (n : Int) ∧ n < 16 ∧ Hid ((n : Int) = v / 16 ^ k % 16) := ⟨(x % 16).toNat, by rw [and15 x hx0 hx1]; omega, by omega, Lib.hid (by rw [← HX.out]; omega)⟩
      have HS := Lib.hid (hex_succ v k)
      have hlt : (n : Int) < 16 := by omega
      rcases Nat.lt_or_ge k D with hkD | hkD
      · have hg : decide (16 - (D : Int) < 16 - (k : Int)) = true := by simp; omega
        have hgl : (16 - d : Int) < 16 - (k : Int) := by have := HL.out; omega
        clear hg
        go_wp2
        go_roundw
        case rel => exact ⟨k + 1, x / 16, by omega, Lib.hid (by rw [HX.out]; exact HS.out), HN', by go_num, rfl, by rw [lookup n hn1]; exact hex_arr v k n w hk15 Hn.out⟩
        case measure => simp [intOf] <;> omega
      · have hgl : ¬ (16 - d : Int) < 16 - (k : Int) := by have := HL.out; omega
        have hxb : (x != 0) = true := by simp; omega
        go_wp2
        go_roundw
        case rel => exact ⟨k + 1, x / 16, by omega, Lib.hid (by rw [HX.out]; exact HS.out), HN', by go_num, rfl, by rw [lookup n hn1]; exact hex_arr v k n w hk15 Hn.out⟩
        case measure => simp [intOf] <;> omega
    · have hx : x = 0 := by omega
      have HK : HexIs v D k := ⟨⟨by omega, by rw [← HX.out]; exact hx⟩, HN⟩
      have hgl : ¬ (16 - d : Int) < 16 - (k : Int) := by have := HL.out; omega
      have hxb : (x != 0) = false := by simp; omega
      have hsl := hex_slice (w.alloc (.cells (hexA v k) 50)) w.heap.size k (by omega) hk
      have hcv := hex_conv v k w hk
      clear HN HX HT
      go_wp2
      go_ret
      exact ⟨k, by rw [← HD.out]; exact HK, rfl, by repeat (first | exact Grown.refl _ | apply Grown.drew | apply Grown.alloc)⟩
set_option maxRecDepth 100000 in
set_option maxHeartbeats 1000000 in
theorem hex_lo (v : Int) (d : Int) (w : World) (h : 0 ≤ v) (h' : v < 18446744073709551616) (hd : d ≤ 1) : Calls Try.prog 27 #[.int .u64 v, .int .i64 d] w (HexPost v (1) w) := by
  obtain ⟨D, HD, hD1, hD2, hDl⟩ : ∃ D : Nat, Hid (D = 1) ∧ 1 ≤ D ∧ D ≤ 16 ∧ (15 : Int) = 16 - (D : Int) := ⟨1, Lib.hid rfl, by omega, by omega, by omega⟩
  have HT := Lib.hid (hex_top v h h')
  have HL := Lib.hid hDl
  clear hDl
  go_enter Try.func27, Try.ntmps27
  go_wp2
  go_loopw [0, 6] (fun t f wr => ∃ (k : Nat) (x : Int), k ≤ 16 ∧ Hid (x = v / 16 ^ k) ∧ HexNot v D k ∧ f = .int .i64 (16 - (k : Int)) ∧ t = .int .u64 x ∧ wr = w.alloc (.cells (hexA v k) 50)) (fun _ f _ => (intOf f).toNat)
  case atStart => exact ⟨0, v, by omega, Lib.hid (by simp), HexNot.zero v D, rfl, rfl, rfl⟩
  case round =>
    obtain ⟨k, x, hk, HX, HN, rfl, rfl, rfl⟩ := hrel
    have hxr := hex_div_range v k h h'
    rw [← HX.out] at hxr
    have hx0 := hxr.1
    have hx1 := hxr.2
    clear hxr
    by_cases hgo : k < D ∨ x ≠ 0
    · have hk15 : k ≤ 15 := by
        rcases Nat.lt_or_ge k 16 with h1 | h1
        · omega
        · obtain rfl : k = 16 := by omega
          have := HX.out; rw [HT.out] at this; omega
      have HN' : HexNot v D (k + 1) := HN.step (by have := HX.out; omega)
      obtain ⟨c, hc⟩ := hexA_get v k (16 - k - 1) (by omega)
      obtain ⟨n, hn, hn1, Hn⟩ : ∃ n : Nat, bits .and .u64 x 15 = (n : Int) ∧ n < 16 ∧ Hid ((n : Int) = v / 16 ^ k % 16) := ⟨(x % 16).toNat, by rw [and15 x hx0 hx1]; omega, by omega, Lib.hid (by rw [← HX.out]; omega)⟩
      have HS := Lib.hid (hex_succ v k)
      have hlt : (n : Int) < 16 := by omega
      rcases Nat.lt_or_ge k D with hkD | hkD
      · have hg : decide (16 - (D : Int) < 16 - (k : Int)) = true := by simp; omega
        have hgl : (15 : Int) < 16 - (k : Int) := by have := HL.out; omega
        clear hg
        go_wp2
        go_roundw
        case rel => exact ⟨k + 1, x / 16, by omega, Lib.hid (by rw [HX.out]; exact HS.out), HN', by go_num, rfl, by rw [lookup n hn1]; exact hex_arr v k n w hk15 Hn.out⟩
        case measure => simp [intOf] <;> omega
      · have hgl : ¬ (15 : Int) < 16 - (k : Int) := by have := HL.out; omega
        have hxb : (x != 0) = true := by simp; omega
        go_wp2
        go_roundw
        case rel => exact ⟨k + 1, x / 16, by omega, Lib.hid (by rw [HX.out]; exact HS.out), HN', by go_num, rfl, by rw [lookup n hn1]; exact hex_arr v k n w hk15 Hn.out⟩
        case measure => simp [intOf] <;> omega
    · have hx : x = 0 := by omega
      have HK : HexIs v D k := ⟨⟨by omega, by rw [← HX.out]; exact hx⟩, HN⟩
      have hgl : ¬ (15 : Int) < 16 - (k : Int) := by have := HL.out; omega
      have hxb : (x != 0) = false := by simp; omega
      have hsl := hex_slice (w.alloc (.cells (hexA v k) 50)) w.heap.size k (by omega) hk
      have hcv := hex_conv v k w hk
      clear HN HX HT
      go_wp2
      go_ret
      exact ⟨k, by rw [← HD.out]; exact HK, rfl, by repeat (first | exact Grown.refl _ | apply Grown.drew | apply Grown.alloc)⟩
set_option maxRecDepth 100000 in
set_option maxHeartbeats 1000000 in
theorem hex_hi (v : Int) (d : Int) (w : World) (h : 0 ≤ v) (h' : v < 18446744073709551616) (hd : 16 < d) : Calls Try.prog 27 #[.int .u64 v, .int .i64 d] w (HexPost v (16) w) := by
  obtain ⟨D, HD, hD1, hD2, hDl⟩ : ∃ D : Nat, Hid (D = 16) ∧ 1 ≤ D ∧ D ≤ 16 ∧ (0 : Int) = 16 - (D : Int) := ⟨16, Lib.hid rfl, by omega, by omega, by omega⟩
  have HT := Lib.hid (hex_top v h h')
  have HL := Lib.hid hDl
  clear hDl
  go_enter Try.func27, Try.ntmps27
  go_wp2
  go_loopw [0, 6] (fun t f wr => ∃ (k : Nat) (x : Int), k ≤ 16 ∧ Hid (x = v / 16 ^ k) ∧ HexNot v D k ∧ f = .int .i64 (16 - (k : Int)) ∧ t = .int .u64 x ∧ wr = w.alloc (.cells (hexA v k) 50)) (fun _ f _ => (intOf f).toNat)
  case atStart => exact ⟨0, v, by omega, Lib.hid (by simp), HexNot.zero v D, rfl, rfl, rfl⟩
  case round =>
    obtain ⟨k, x, hk, HX, HN, rfl, rfl, rfl⟩ := hrel
    have hxr := hex_div_range v k h h'
    rw [← HX.out] at hxr
    have hx0 := hxr.1
    have hx1 := hxr.2
    clear hxr
    by_cases hgo : k < D ∨ x ≠ 0
    · have hk15 : k ≤ 15 := by
        rcases Nat.lt_or_ge k 16 with h1 | h1
        · omega
        · obtain rfl : k = 16 := by omega
          have := HX.out; rw [HT.out] at this; omega
      have HN' : HexNot v D (k + 1) := HN.step (by have := HX.out; omega)
      obtain ⟨c, hc⟩ := hexA_get v k (16 - k - 1) (by omega)
      obtain ⟨n, hn, hn1, Hn⟩ : ∃ n : Nat, bits .and .u64 x 15 = (n : Int) ∧ n < 16 ∧ Hid ((n : Int) = v / 16 ^ k % 16) := ⟨(x % 16).toNat, by rw [and15 x hx0 hx1]; omega, by omega, Lib.hid (by rw [← HX.out]; omega)⟩
      have HS := Lib.hid (hex_succ v k)
      have hlt : (n : Int) < 16 := by omega
      rcases Nat.lt_or_ge k D with hkD | hkD
      · have hg : decide (16 - (D : Int) < 16 - (k : Int)) = true := by simp; omega
        have hgl : (0 : Int) < 16 - (k : Int) := by have := HL.out; omega
        clear hg
        go_wp2
        go_roundw
        case rel => exact ⟨k + 1, x / 16, by omega, Lib.hid (by rw [HX.out]; exact HS.out), HN', by go_num, rfl, by rw [lookup n hn1]; exact hex_arr v k n w hk15 Hn.out⟩
        case measure => simp [intOf] <;> omega
      · exfalso; have := HD.out; omega
    · have hx : x = 0 := by omega
      have HK : HexIs v D k := ⟨⟨by omega, by rw [← HX.out]; exact hx⟩, HN⟩
      have hgl : ¬ (0 : Int) < 16 - (k : Int) := by have := HL.out; omega
      have hxb : (x != 0) = false := by simp; omega
      have hsl := hex_slice (w.alloc (.cells (hexA v k) 50)) w.heap.size k (by omega) hk
      have hcv := hex_conv v k w hk
      clear HN HX HT
      go_wp2
      go_ret
      exact ⟨k, by rw [← HD.out]; exact HK, rfl, by repeat (first | exact Grown.refl _ | apply Grown.drew | apply Grown.alloc)⟩

def clamp (d : Int) : Nat := if d ≤ 1 then 1 else if d ≤ 16 then d.toNat else 16
theorem hex_c (v : Int) (d : Int) (w : World) (h : 0 ≤ v) (h' : v < 18446744073709551616) : Calls Try.prog 27 #[.int .u64 v, .int .i64 d] w (HexPost v (clamp d) w) := by
  unfold clamp
  by_cases h1 : d ≤ 1
  · rw [if_pos h1]; exact hex_lo v d w h h' h1
  · by_cases h2 : d ≤ 16
    · rw [if_neg h1, if_pos h2]; exact hex_mid v d w h h' (by omega) h2
    · rw [if_neg h1, if_neg h2]; exact hex_hi v d w h h' (by omega)

/-! ### The document's -/
theorem rdig_c (x : Int) (w : World) (h : 0 ≤ x) (h' : x < 16) : Calls Try.prog 38 #[.int .u8 x] w fun e w' => e = .returned (.int .u8 (dig x)) ∧ w = w' := by
  have HD := Lib.hid (show dig x = if x < 10 then 48 + x else 87 + x from rfl)
  by_cases h1 : x < 10
  · go_enter Try.func38, Try.ntmps38
    go_wp2
    go_ret
    exact ⟨ret_int (by rw [HD.out, if_pos h1]), rfl⟩
  · go_enter Try.func38, Try.ntmps38
    go_wp2
    go_ret
    exact ⟨ret_int (by rw [HD.out, if_neg (by omega)]; omega), rfl⟩
def strOf : Value → Nat
  | .string s => s.size
  | _ => 0
theorem rhex_conv (n : Int) (w : World) (h : 0 ≤ n) (h' : n < 16) :
    (convert 51 9 (.slice (some ⟨w.heap.size, 0, none⟩) 1 1)).run Try.prog (w.alloc (.cells #[.int .u8 (dig n)] 5)) = .ok (.string ⟨#[digb n]⟩) (w.alloc (.cells #[.int .u8 (dig n)] 5)) :=
  run_convert_bytes_back (P := Try.prog) (w.alloc (.cells #[.int .u8 (dig n)] 5)) 51 9 5 ⟨w.heap.size, 0, none⟩ 1 [digb n] Try.underlying51 Try.underlying5 Try.underlying9 (fun j hj => by
    obtain rfl : j = 0 := by simpa using hj
    have ha : (⟨w.heap.size, 0, none⟩ : Addr).add 0 = ⟨w.heap.size, 0, none⟩ := by simp [Addr.add]
    rw [ha, World.cell?_alloc_mark]
    simp [digb_toNat n h h'])

theorem hex_cat (v : Int) (k : Nat) (n : Int) (hn : n = v / 16 ^ k % 16) : Value.string (⟨#[digb n]⟩ ++ ⟨(hexL v k).toArray⟩) = Value.string ⟨(hexL v (k + 1)).toArray⟩ := by
  congr 1
  apply ByteArray.ext
  rw [ByteArray.data_append]
  simp [hexL, hn]
set_option maxRecDepth 100000 in
set_option maxHeartbeats 1000000 in
theorem rhex_mid (v : Int) (d : Int) (w : World) (h : 0 ≤ v) (h' : v < 18446744073709551616) (hd : 1 ≤ d) (hd' : d ≤ 16) : Calls Try.prog 28 #[.int .u64 v, .int .i64 d] w (HexPost v (d.toNat) w) := by
  have HT := Lib.hid (hex_top v h h')
  obtain ⟨D, HD, hD1, hD2, HL⟩ : ∃ D : Nat, Hid (D = d.toNat) ∧ 1 ≤ D ∧ D ≤ 16 ∧ Hid (d = (D : Int)) := ⟨d.toNat, Lib.hid rfl, by omega, by omega, Lib.hid (by omega)⟩
  go_enter Try.func28, Try.ntmps28
  go_wp2
  go_loopw [0, 5] (fun t f wr => ∃ (k : Nat) (x : Int), k ≤ 16 ∧ Hid (x = v / 16 ^ k) ∧ HexNot v D k ∧ f = .string ⟨(hexL v k).toArray⟩ ∧ t = .int .u64 x ∧ Grown w wr) (fun t f _ => 16 - strOf f)
  case atStart => exact ⟨0, v, by omega, Lib.hid (by simp), HexNot.zero v _, rfl, rfl, by repeat (first | exact Grown.refl _ | apply Grown.drew | apply Grown.alloc)⟩
  case round =>
    obtain ⟨k, x, hk, HX, HN, rfl, rfl, hG⟩ := hrel
    have hxr := hex_div_range v k h h'
    rw [← HX.out] at hxr
    have hx0 := hxr.1
    have hx1 := hxr.2
    clear hxr
    have hlen := hexL_length v k
    by_cases hgo : k < D ∨ x ≠ 0
    · have hk15 : k ≤ 15 := by
        rcases Nat.lt_or_ge k 16 with h1 | h1
        · omega
        · obtain rfl : k = 16 := by omega
          have := HX.out; rw [HT.out] at this; omega
      have HN' : HexNot v D (k + 1) := HN.step (by have := HX.out; omega)
      obtain ⟨n, hn, hn0, hn1, Hn⟩ : ∃ n : Int, bits .and .u64 x 15 = n ∧ 0 ≤ n ∧ n < 16 ∧ Hid (n = v / 16 ^ k % 16) := ⟨x % 16, by rw [and15 x hx0 hx1], by omega, by omega, Lib.hid (by rw [← HX.out])⟩
      have HS := Lib.hid (hex_succ v k)
      have hcv := rhex_conv n wr hn0 hn1
      have HC := Lib.hid (hex_cat v k n Hn.out)
      by_cases hxz : x = 0
      · subst hxz
        have hkd : (k : Int) < d := by have := HL.out; omega
        go_wp2_with (go_at_call 38; refine (rdig_c _ _ (by omega) (by omega)).mono ?_; rintro e w' ⟨rfl, rfl⟩)
        go_roundw
        case rel => exact ⟨k + 1, 0, by omega, Lib.hid (by rw [← HS.out, ← HX.out]; rfl), HN', by rw [HC.out], rfl, hG.alloc _ _⟩
        case measure => rw [HC.out]; simp [strOf, hexL_length, ByteArray.size]; omega
      · have hxp : 0 < x := by omega
        go_wp2_with (go_at_call 38; refine (rdig_c _ _ (by omega) (by omega)).mono ?_; rintro e w' ⟨rfl, rfl⟩)
        go_roundw
        case rel => exact ⟨k + 1, x / 16, by omega, Lib.hid (by rw [HX.out]; exact HS.out), HN', by rw [HC.out], rfl, hG.alloc _ _⟩
        case measure => rw [HC.out]; simp [strOf, hexL_length, ByteArray.size]; omega
    · obtain rfl : x = 0 := by omega
      have HK : HexIs v D k := ⟨⟨by omega, HX.out.symm⟩, HN⟩
      have hkd : ¬ (k : Int) < d := by have := HL.out; omega
      go_wp2
      go_ret
      exact ⟨k, by rw [← HD.out]; exact HK, rfl, hG⟩
set_option maxRecDepth 100000 in
set_option maxHeartbeats 1000000 in
theorem rhex_lo (v : Int) (d : Int) (w : World) (h : 0 ≤ v) (h' : v < 18446744073709551616) (hd : d < 1) : Calls Try.prog 28 #[.int .u64 v, .int .i64 d] w (HexPost v (1) w) := by
  have HT := Lib.hid (hex_top v h h')
  obtain ⟨D, HD, hD1, hD2, HL⟩ : ∃ D : Nat, Hid (D = 1) ∧ 1 ≤ D ∧ D ≤ 16 ∧ Hid (1 = (D : Int)) := ⟨1, Lib.hid rfl, by omega, by omega, Lib.hid (by omega)⟩
  go_enter Try.func28, Try.ntmps28
  go_wp2
  go_loopw [0, 5] (fun t f wr => ∃ (k : Nat) (x : Int), k ≤ 16 ∧ Hid (x = v / 16 ^ k) ∧ HexNot v D k ∧ f = .string ⟨(hexL v k).toArray⟩ ∧ t = .int .u64 x ∧ Grown w wr) (fun t f _ => 16 - strOf f)
  case atStart => exact ⟨0, v, by omega, Lib.hid (by simp), HexNot.zero v _, rfl, rfl, by repeat (first | exact Grown.refl _ | apply Grown.drew | apply Grown.alloc)⟩
  case round =>
    obtain ⟨k, x, hk, HX, HN, rfl, rfl, hG⟩ := hrel
    have hxr := hex_div_range v k h h'
    rw [← HX.out] at hxr
    have hx0 := hxr.1
    have hx1 := hxr.2
    clear hxr
    have hlen := hexL_length v k
    by_cases hgo : k < D ∨ x ≠ 0
    · have hk15 : k ≤ 15 := by
        rcases Nat.lt_or_ge k 16 with h1 | h1
        · omega
        · obtain rfl : k = 16 := by omega
          have := HX.out; rw [HT.out] at this; omega
      have HN' : HexNot v D (k + 1) := HN.step (by have := HX.out; omega)
      obtain ⟨n, hn, hn0, hn1, Hn⟩ : ∃ n : Int, bits .and .u64 x 15 = n ∧ 0 ≤ n ∧ n < 16 ∧ Hid (n = v / 16 ^ k % 16) := ⟨x % 16, by rw [and15 x hx0 hx1], by omega, by omega, Lib.hid (by rw [← HX.out])⟩
      have HS := Lib.hid (hex_succ v k)
      have hcv := rhex_conv n wr hn0 hn1
      have HC := Lib.hid (hex_cat v k n Hn.out)
      by_cases hxz : x = 0
      · subst hxz
        have hkd : (k : Int) < 1 := by have := HL.out; omega
        go_wp2_with (go_at_call 38; refine (rdig_c _ _ (by omega) (by omega)).mono ?_; rintro e w' ⟨rfl, rfl⟩)
        go_roundw
        case rel => exact ⟨k + 1, 0, by omega, Lib.hid (by rw [← HS.out, ← HX.out]; rfl), HN', by rw [HC.out], rfl, hG.alloc _ _⟩
        case measure => rw [HC.out]; simp [strOf, hexL_length, ByteArray.size]; omega
      · have hxp : 0 < x := by omega
        go_wp2_with (go_at_call 38; refine (rdig_c _ _ (by omega) (by omega)).mono ?_; rintro e w' ⟨rfl, rfl⟩)
        go_roundw
        case rel => exact ⟨k + 1, x / 16, by omega, Lib.hid (by rw [HX.out]; exact HS.out), HN', by rw [HC.out], rfl, hG.alloc _ _⟩
        case measure => rw [HC.out]; simp [strOf, hexL_length, ByteArray.size]; omega
    · obtain rfl : x = 0 := by omega
      have HK : HexIs v D k := ⟨⟨by omega, HX.out.symm⟩, HN⟩
      have hkd : ¬ (k : Int) < 1 := by have := HL.out; omega
      go_wp2
      go_ret
      exact ⟨k, by rw [← HD.out]; exact HK, rfl, hG⟩
set_option maxRecDepth 100000 in
set_option maxHeartbeats 1000000 in
theorem rhex_hi (v : Int) (d : Int) (w : World) (h : 0 ≤ v) (h' : v < 18446744073709551616) (hd : 16 < d) : Calls Try.prog 28 #[.int .u64 v, .int .i64 d] w (HexPost v (16) w) := by
  have HT := Lib.hid (hex_top v h h')
  obtain ⟨D, HD, hD1, hD2, HL⟩ : ∃ D : Nat, Hid (D = 16) ∧ 1 ≤ D ∧ D ≤ 16 ∧ Hid (16 = (D : Int)) := ⟨16, Lib.hid rfl, by omega, by omega, Lib.hid (by omega)⟩
  go_enter Try.func28, Try.ntmps28
  go_wp2
  go_loopw [0, 5] (fun t f wr => ∃ (k : Nat) (x : Int), k ≤ 16 ∧ Hid (x = v / 16 ^ k) ∧ HexNot v D k ∧ f = .string ⟨(hexL v k).toArray⟩ ∧ t = .int .u64 x ∧ Grown w wr) (fun t f _ => 16 - strOf f)
  case atStart => exact ⟨0, v, by omega, Lib.hid (by simp), HexNot.zero v _, rfl, rfl, by repeat (first | exact Grown.refl _ | apply Grown.drew | apply Grown.alloc)⟩
  case round =>
    obtain ⟨k, x, hk, HX, HN, rfl, rfl, hG⟩ := hrel
    have hxr := hex_div_range v k h h'
    rw [← HX.out] at hxr
    have hx0 := hxr.1
    have hx1 := hxr.2
    clear hxr
    have hlen := hexL_length v k
    by_cases hgo : k < D ∨ x ≠ 0
    · have hk15 : k ≤ 15 := by
        rcases Nat.lt_or_ge k 16 with h1 | h1
        · omega
        · obtain rfl : k = 16 := by omega
          have := HX.out; rw [HT.out] at this; omega
      have HN' : HexNot v D (k + 1) := HN.step (by have := HX.out; omega)
      obtain ⟨n, hn, hn0, hn1, Hn⟩ : ∃ n : Int, bits .and .u64 x 15 = n ∧ 0 ≤ n ∧ n < 16 ∧ Hid (n = v / 16 ^ k % 16) := ⟨x % 16, by rw [and15 x hx0 hx1], by omega, by omega, Lib.hid (by rw [← HX.out])⟩
      have HS := Lib.hid (hex_succ v k)
      have hcv := rhex_conv n wr hn0 hn1
      have HC := Lib.hid (hex_cat v k n Hn.out)
      by_cases hxz : x = 0
      · subst hxz
        have hkd : (k : Int) < 16 := by have := HL.out; omega
        go_wp2_with (go_at_call 38; refine (rdig_c _ _ (by omega) (by omega)).mono ?_; rintro e w' ⟨rfl, rfl⟩)
        go_roundw
        case rel => exact ⟨k + 1, 0, by omega, Lib.hid (by rw [← HS.out, ← HX.out]; rfl), HN', by rw [HC.out], rfl, hG.alloc _ _⟩
        case measure => rw [HC.out]; simp [strOf, hexL_length, ByteArray.size]; omega
      · have hxp : 0 < x := by omega
        go_wp2_with (go_at_call 38; refine (rdig_c _ _ (by omega) (by omega)).mono ?_; rintro e w' ⟨rfl, rfl⟩)
        go_roundw
        case rel => exact ⟨k + 1, x / 16, by omega, Lib.hid (by rw [HX.out]; exact HS.out), HN', by rw [HC.out], rfl, hG.alloc _ _⟩
        case measure => rw [HC.out]; simp [strOf, hexL_length, ByteArray.size]; omega
    · obtain rfl : x = 0 := by omega
      have HK : HexIs v D k := ⟨⟨by omega, HX.out.symm⟩, HN⟩
      have hkd : ¬ (k : Int) < 16 := by have := HL.out; omega
      go_wp2
      go_ret
      exact ⟨k, by rw [← HD.out]; exact HK, rfl, hG⟩

theorem rhex_c (v : Int) (d : Int) (w : World) (h : 0 ≤ v) (h' : v < 18446744073709551616) : Calls Try.prog 28 #[.int .u64 v, .int .i64 d] w (HexPost v (clamp d) w) := by
  unfold clamp
  by_cases h1 : d < 1
  · rw [if_pos (by omega)]; exact rhex_lo v d w h h' h1
  · by_cases h2 : d ≤ 16
    · by_cases h3 : d ≤ 1
      · have := rhex_mid v d w h h' (by omega) h2
        rw [if_pos h3]; rwa [show d.toNat = 1 by omega] at this
      · rw [if_neg h3, if_pos h2]; exact rhex_mid v d w h h' (by omega) h2
    · rw [if_neg (by omega), if_neg h2]; exact rhex_hi v d w h h' (by omega)
end Go.Proofs.Ytnchckbgdekfbaa
