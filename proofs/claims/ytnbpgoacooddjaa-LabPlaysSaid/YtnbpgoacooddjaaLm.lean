import Derived.Test.YtnbpgoacooddjaaLj
namespace Go.Proofs.Ytnbpgoacooddjaa.Lab
open Go.ChangeShapes Go.WideShapes Go.ChangeAt Go.RowKit Go.Maps
open Go.Proofs.Ytnbpgoacooddjaa.En
set_option linter.unusedVariables false
attribute [local go_sem] rowAt_drew rowAt_drewN
def nop : In := ⟨1, 0, 0, 0, 0, 0, 0⟩
theorem nop_e : nop.e = 0 := by decide
def fillS (S : Lb) : Nat → Lb
  | 0 => S
  | k + 1 => (fillS S k).app (fun _ => nop) 1
theorem fillS_n (S : Lb) : ∀ k, (fillS S k).n = S.n + k
  | 0 => rfl
  | k + 1 => by
    show (fillS S k).n + 1 = _
    rw [fillS_n S k]; rfl
set_option maxRecDepth 100000 in
set_option maxHeartbeats 8000000 in
theorem fill_b {B : Nat} {w0 w : World} {p : Nat} {S : Lb} (h : LbB B w0 w p S) (n : Nat) (hn : S.n + n ≤ 65536) :
    Calls Try.prog 25 #[.pointer (some ⟨p, 0, none⟩), .int .i64 n] w fun e w' => e = .returned (.tuple #[]) ∧ LbB B w0 w' p (fillS S n) := by
  have H := Lib.hid h
  clear h
  go_enter Try.func25, Try.ntmps25
  go_wp2
  go_loopw [4] (fun s4 W => ∃ k : Nat, k ≤ n ∧ s4 = .int .i64 k ∧ Hid (LbB B w0 W p (fillS S k))) (fun s4 _ => n - (intOf s4).toNat)
  case atStart => exact ⟨0, Nat.zero_le _, rfl, H⟩
  case round =>
    obtain ⟨k, hk, rfl, HL⟩ := hrel
    by_cases hlt : k < n
    · have hN := fillS_n S k
      have HPut := Lib.hid (put1_b HL.out nop (by omega) nop_e)
      go_wp2_with (go_at_call 29; refine HPut.out.mono ?_; rintro e w2 ⟨rfl, hl2⟩; have HL2 := Lib.hid hl2; clear hl2)
      go_roundw
      case rel => exact ⟨k + 1, by omega, by go_num, HL2⟩
      case measure => simp [intOf]; omega
    · obtain rfl : n = k := by omega
      go_wp2
      go_end0
      exact ⟨rfl, HL.out⟩
def nmA : ByteArray := { data := #[97] }
def bI : In := ⟨20, 0, 0, 0, 0, 0, 0⟩
def kS : Lb := (((Lb.new 4096).lab nmA).app (fun _ => nop) 1).jump bI nmA
def kF : Nat → In := landF kS (fun _ => 1) (fun _ => 0) 1
theorem kF0 : kF 0 = nop := by rfl
theorem kF1 : kF 1 = ⟨20, 0, 0, 0, 0, 0, -4⟩ := by rfl
theorem kF_good : good kF 2 := fun j hj => by
  rcases (show j = 0 ∨ j = 1 by omega) with rfl | rfl
  · rw [kF0]; exact nop_e
  · rw [kF1]; decide
theorem kw0 : (kF 0).w = 3573751839 := by rw [kF0]; decide
theorem kw1 : (kF 1).w = 402653183 := by rw [kF1]; decide
theorem k_has : Maps.has kS.D (ky nmA) = true := by decide
theorem k_at : kS.D.atKey (ky nmA) (.lit (.int .i64 0)) = .lit (.int .i64 0) := by rfl
theorem c_ok : ∀ k, k < 4 → (cI 1 65538 k).e = 0 := fun k hk => by
  rcases (show k = 0 ∨ k = 1 ∨ k = 2 ∨ k = 3 by omega) with rfl | rfl | rfl | rfl <;> decide +kernel
theorem c_n : (stZ (Lb.new 0) 1 65538).n = 2 := by decide +kernel
set_option maxRecDepth 100000 in
set_option maxHeartbeats 8000000 in
/-- The law's known. -/
theorem known19 (w : World) : Calls Try.prog 19 #[] w fun e w' => e = .returned (.bool true) ∧ Below w.heap.size w w' := by
  have HN1 := Lib.hid (new_b 4096 w)
  go_enter Try.func19, Try.ntmps19
  go_upto_region 4 with (go_at_call 20; refine HN1.out.mono ?_; rintro e w1 ⟨rfl, hl1⟩; have HL1 := Lib.hid hl1; clear hl1)
  obtain ⟨B, hB⟩ : ∃ B, w.heap.size = B := ⟨_, rfl⟩
  rw [hB] at HL1
  have HBl := Lib.hid (Nat.le_of_eq hB)
  try rw [hB]
  clear HN1
  have hBw := hB
  clear hB
  have hW : ∀ k, k < kS.jn → kS.pl k = ((fun _ => 1 : Nat → Nat) k : Int) ∧ (fun _ => 1 : Nat → Nat) k < kS.n ∧ (kS.nm k).size ≤ maxLen ∧ Maps.has kS.D (ky (kS.nm k)) = true ∧ kS.D.atKey (ky (kS.nm k)) (.lit (.int .i64 0)) = .lit (.int .i64 ((fun _ => 0 : Nat → Nat) k : Int)) ∧ (fun _ => 0 : Nat → Nat) k ≤ 65536 := fun k hk => by
    obtain rfl : k = 0 := by
      have : kS.jn = 1 := rfl
      omega
    exact ⟨rfl, by decide, by decide, k_has, k_at, by decide⟩
  have HW := Lib.hid hW
  clear hW
  go_upto_region 8 with (first | (go_at_call 26; refine (label_b HL1.out nmA (by decide) (by decide) (by decide)).mono ?_; rintro e w2 ⟨rfl, hl2⟩; have HL2 := Lib.hid hl2; clear hl2 HL1) | (go_at_call 29; refine (put1_b HL2.out nop (by decide) nop_e).mono ?_; rintro e w3 ⟨rfl, hl3⟩; have HL3 := Lib.hid hl3; clear hl3 HL2) | (go_at_call 28; refine (jump_b HL3.out bI nmA (by decide) (by decide) (by decide) (by decide)).mono ?_; rintro e w4 ⟨rfl, hl4⟩; have HL4 : Hid (LbB B w w4 (B + 1) kS) := Lib.hid hl4; clear hl4 HL3) | (go_at_call 22; refine (words_b HL4.out rfl (fun _ => 1) (fun _ => 0) (by decide) HW.out kF_good).mono ?_; rintro e w5 ⟨g, rfl, hg5, ho5, hb5⟩; have HL5 := Lib.hid (HL4.out.past hb5); have HO5 := Lib.hid ho5; clear hg5 ho5 hb5))
  have hkn : kS.n = 2 := rfl
  rw [hkn] at HO5
  rw [hkn]
  obtain ⟨k0, k1⟩ := own_cells HO5.out
  have g0 := k0 0 (.int .u32 (kF 0).w) rfl
  have g1 := k0 1 (.int .u32 (kF 1).w) rfl
  rw [kw0] at g0
  rw [kw1] at g1
  have hgl : g < w5.heap.size := World.block_lt_of_cell? w5 ⟨g, 0, none⟩ g0
  clear k0 k1 HW
  have HN2 := Lib.hid (new_b 0 w5)
  go_upto_region 10 with (first | (go_at_call 20; refine HN2.out.mono ?_; rintro e w6 ⟨rfl, hd6⟩; have HD6 := Lib.hid hd6; clear hd6) | (go_at_call 21; refine (const_b HD6.out 1 65538 (by decide) (by decide) (by decide) c_ok (by decide)).mono ?_; rintro e w7 ⟨rfl, hd7⟩; have HD7 := Lib.hid hd7; clear hd7))
  have q0 : w7.cell? ⟨g, 0, none⟩ = some (.int .u32 3573751839) := (HD7.out.bl.cell (p := ⟨g, 0, none⟩) hgl).trans g0
  have q1 : w7.cell? ⟨g, 1, none⟩ = some (.int .u32 402653183) := (HD7.out.bl.cell (p := ⟨g, 1, none⟩) hgl).trans g1
  have HL7 := Lib.hid (HL5.out.past HD7.out.bl)
  have hlen := len_b HD7.out
  rw [c_n] at hlen
  have hhere := here_b HL7.out
  rw [show placeS kS.at0 kS.n = 4104 by decide] at hhere
  have HLEN := Lib.hid hlen
  have HHERE := Lib.hid hhere
  clear g0 g1 hlen hhere
  go_wp2_with (first | (go_at_call 32; refine HLEN.out.mono ?_; rintro e w8 ⟨rfl, rfl⟩) | (go_at_call 27; refine HHERE.out.mono ?_; rintro e w8 ⟨rfl, rfl⟩))
  go_ret
  exact ⟨rfl, by rw [hBw]; exact HL7.out.bl⟩
end Go.Proofs.Ytnbpgoacooddjaa.Lab
