import Derived.Test.YtnbpgoacooddjaaMu
namespace Go.Proofs.Ytnbpgoacooddjaa.Mm
open Go.ChangeShapes Go.WideShapes Go.ChangeAt Go.RowKit
set_option linter.unusedVariables false
/-- The memory of the law's known. -/
def kMe : Me := zMe 1 (fun _ => 4096) (fun _ => 16) (fun _ => true) (fun _ => false)
theorem new_1 (w : World) (u : Value) (hb : RgSrc w u 1 (fun _ => 4096) (fun _ => 16) (fun _ => true) (fun _ => false)) :
    Calls Try.prog 43 #[u] w fun e w' => (∃ mb v B C, e = .returned (.tuple #[.pointer (some ⟨mb, 0, none⟩), .int .i64 0]) ∧ MeC 184 187 w' (fun k => w.heap.size ≤ k ∧ k < w'.heap.size) mb kMe v B C) ∧ Below w.heap.size w w' := by
  refine (new_c w u 1 _ _ _ _ hb (by omega)).mono ?_
  rintro e w' ⟨hbw, A, S, W, X, ⟨π, _, _, rfl, rfl, rfl, rfl⟩, _, ⟨_, mb, v, B, C, rfl, hm⟩ | ⟨hn, _⟩⟩
  · exact ⟨⟨mb, v, B, C, rfl, hm⟩, hbw⟩
  · refine absurd ?_ hn
    intro i hi
    obtain rfl : i = 0 := by omega
    exact ⟨⟨by show 4096 % 8 = 0; omega, by show 16 % 8 = 0; omega, by show 0 < 16; omega, by show 16 ≤ 16777216; omega, by show 4096 + 16 ≤ 281474976710656; omega⟩, Nat.zero_le _⟩
theorem known58_hs (m o : Nat) (h : o < 16) (h2 : o + m ≤ 16) (l : List Nat) : Hs (kMe.ld 0 0 l) (4096 + o) m 0 o := by
  obtain ⟨e1, e2, e3, _⟩ := ld_same 0 l kMe 0
  unfold Hs
  rw [e1, e2, e3]
  exact ⟨Nat.zero_lt_one, rfl, h, h2⟩
set_option maxRecDepth 100000 in
set_option maxHeartbeats 4000000 in
theorem known58_c (w : World) : Calls Try.prog 58 #[] w fun e w' => e = .returned (.bool true) ∧ Below w.heap.size w w' := by
  have hW : Below w.heap.size w (w.alloc (.cells #[.int .u64 4096, .int .u64 16, .bool true, .bool false] 113)) := (Below.refl _ _).alloc (Nat.le_refl _) _
  have HS : Hid (RgSrc (w.alloc (.cells #[.int .u64 4096, .int .u64 16, .bool true, .bool false] 113)) (.slice (some ⟨w.heap.size, 0, none⟩) 1 1) 1 (fun _ => 4096) (fun _ => 16) (fun _ => true) (fun _ => false)) := Lib.hid ⟨_, 1, rfl, Nat.le_refl _, fun _ => ⟨⟨w.heap.size, 0, none⟩, rfl, by simp, fun q hq => by
    have : (⟨w.heap.size, 0, none⟩ : Addr).add q = ⟨w.heap.size, q, none⟩ := by unfold Addr.add; split <;> simp_all
    rw [this, World.cell?_alloc_at _ _ _ _ rfl]
    have : q = 0 ∨ q = 1 ∨ q = 2 ∨ q = 3 := by omega
    rcases this with rfl | rfl | rfl | rfl <;> rfl⟩⟩
  have HB0 := Lib.hid hW
  have HZ : Hid (w.heap.size ≤ (w.alloc (.cells #[.int .u64 4096, .int .u64 16, .bool true, .bool false] 113)).heap.size) := Lib.hid hW.size
  have hy1 : (kMe.ld 0 0 (byts 1 8)).y 0 0 = 1 := by decide
  clear hW
  go_enter Try.func58, Try.ntmps58
  go_wp2_with (first
    | (go_at_call 43; refine (new_1 _ _ HS.out).mono ?_; rintro e w1 ⟨⟨mb, v, B, C, rfl, hm⟩, hb⟩; have HM := Lib.hid hm; have HB := Lib.hid (HB0.out.trans (hb.mono HZ.out)); clear hm hb)
    | (go_at_call 51; refine (write_y HM.out (u := 1) (known58_hs 8 0 (by omega) (by omega) []) rfl rfl (by omega)).mono ?_; rintro e w2 ⟨rfl, hm, hk⟩; have HM2 := Lib.hid hm; have HB2 := Lib.hid (HB.out.trans (hk.below (B := w.heap.size) HB.out.size (fun k hk => Nat.le_trans HZ.out hk.1))); clear hm hk)
    | (go_at_call 138; refine (byte_y HM2.out (known58_hs 1 0 (by omega) (by omega) _)).mono ?_; rintro e w3 ⟨rfl, q3, rfl⟩; have HM3 := Lib.hid (HM2.out.past (below_drewN (Below.refl _ _) q3)))
    | (go_at_call 139; refine (read_m HM3.out (known58_hs 8 4 (by omega) (by omega) _) (by omega)).mono ?_; rintro e w4 ⟨rfl, q4, rfl⟩; have HM4 := Lib.hid (HM2.out.past (below_drewN (Below.refl _ _) (q3 + q4))))
    | (go_at_call 128; refine (word_m HM4.out (known58_hs 0 0 (by omega) (by omega) _) (.inr rfl)).mono ?_; rintro e w5 ⟨rfl, q5, rfl⟩))
  refine bodyPost_ret (v := .bool true) (by simp [results, Try.results58, go_sem]) rfl ⟨rfl, ?_⟩
  exact below_drewN HB2.out _
end Go.Proofs.Ytnbpgoacooddjaa.Mm
