import Derived.Test.YtapcapcbndooiaaRows
import Derived.WalkKit
import Derived.ProofKit
import Derived.OpenShut
import Derived.Deep.QuietTactic
import Derived.BigQuiet
import Derived.Outline
import Derived.WalkSmall
import Derived.WalkLawsBesides
import Derived.WalkSpells
import Derived.BigGuardPart
import Derived.RegionTactic
import Derived.Deep.RegionHeld3
import Derived.Lib.Hide
import Derived.Deep.OwnRows
import Derived.Maps.AppendAt
import Derived.Deep.AppendLies
import Derived.Below
import Derived.Test.YtapcapcbndooiaaNewY
namespace Go.Proofs.Ytapcapcbndooiaa
open Go.ChangeShapes Go.WideShapes Go.ChangeAt Go.RowKit
set_option linter.unusedVariables false
/-- A memory that stands in new blocks: its areas' bytes lie apart from its own cells. -/
def MemNew (w : World) (N mb ab n cap : Nat) (A S : Nat → Nat) (W X : Nat → Bool) (B : Nat → Nat) : Prop :=
  MemAt w mb ab n cap A S W X B ∧ N ≤ mb ∧ mb < ab ∧ (∀ i, i < n → N ≤ B i ∧ B i ≠ mb ∧ B i ≠ ab) ∧ (∀ i j, i < n → j < n → i ≠ j → B i ≠ B j) ∧ (∀ i p, i < n → p < S i → ∃ c : Nat, c < 256 ∧ w.cell? ⟨B i, p, none⟩ = some (.int .u8 c) ∧ w.frozen? ⟨B i, p, none⟩ = false)
theorem Made.mem {w : World} {N mb n : Nat} {v : Value} {A S : Nat → Nat} {W X : Nat → Bool} {B : Nat → Nat} (h : Made w mb v n A S W X B) (hN : N ≤ mb) (hn : 0 < n) (hs : small A S n) : ∃ ab cap, v = .slice (some ⟨ab, 0, none⟩) n cap ∧ MemNew w N mb ab n cap A S W X B ∧ ∀ i p, i < n → p < S i → w.cell? ⟨B i, p, none⟩ = some (.int .u8 0) := by
  obtain ⟨m1, m2, m3, m4, m5, m6⟩ := h
  obtain ⟨ab, cap, rfl, h1, h2⟩ := World.ownsRow.form m4 hn
  refine ⟨ab, cap, rfl, ⟨⟨hs, m1, fun j hj => ?_⟩, hN, by omega, fun i hi => ?_, m6, fun i p hi hp => ⟨0, by decide, ((m5 i hi).2.2.2 p hp)⟩⟩, fun i p hi hp => ((m5 i hi).2.2.2 p hp).1⟩
  · have g : ∀ p, p < n * 5 → w.cell? ⟨ab, p, none⟩ = some (areaCell A S W X B p) := fun p hp => (World.ownsRow.cellAt m4 p hp).trans (areaCells_at _ _ _ _ _ _ _ hp)
    obtain ⟨c0, c1, c2, c3, c4⟩ := areaCell_at A S W X B j
    exact ⟨(g _ (by omega)).trans (by rw [c0]), (g _ (by omega)).trans (by rw [c1]), (g _ (by omega)).trans (by rw [c2]), (g _ (by omega)).trans (by rw [c3]), (g _ (by omega)).trans (by rw [c4])⟩
  · obtain ⟨b1, b2, b3, b4⟩ := m5 i hi
    refine ⟨by omega, by omega, fun e => b3 ?_⟩
    rw [e]; rfl
theorem byteOf_lt (v j : Nat) : byteOf v j < 256 := Nat.mod_lt _ (by decide)
theorem MemNew.wrote {w w' : World} {N mb ab n cap k o v m : Nat} {A S : Nat → Nat} {W X : Nat → Bool} {B : Nat → Nat} (h : MemNew w N mb ab n cap A S W X B) (hk : k < n) (hw : Wrote w w' (B k) o v m) : MemNew w' N mb ab n cap A S W X B := by
  obtain ⟨⟨h1, h2, h3⟩, h4, h5, h6, h7, h8⟩ := h
  obtain ⟨w1, w2, w3, w4, w5⟩ := hw
  obtain ⟨k1, k2, k3⟩ := h6 k hk
  refine ⟨⟨h1, (w4 _ _ (Or.inl (Ne.symm k2))).trans h2, fun j hj => ?_⟩, h4, h5, h6, h7, fun i p hi hp => ?_⟩
  · obtain ⟨a0, a1, a2, a3, a4⟩ := h3 j hj
    exact ⟨(w4 _ _ (Or.inl (Ne.symm k3))).trans a0, (w4 _ _ (Or.inl (Ne.symm k3))).trans a1, (w4 _ _ (Or.inl (Ne.symm k3))).trans a2, (w4 _ _ (Or.inl (Ne.symm k3))).trans a3, (w4 _ _ (Or.inl (Ne.symm k3))).trans a4⟩
  · obtain ⟨c, hc, c1, c2⟩ := h8 i p hi hp
    by_cases hb : B i = B k
    · by_cases hp2 : o ≤ p ∧ p < o + m
      · refine ⟨byteOf v (p - o), byteOf_lt _ _, ?_, (w3 _).trans c2⟩
        have := w5 (p - o) (by omega)
        rw [show o + (p - o) = p by omega] at this
        rw [hb]; exact this
      · exact ⟨c, hc, (w4 _ _ (Or.inr (by omega))).trans c1, (w3 _).trans c2⟩
    · exact ⟨c, hc, (w4 _ _ (Or.inl hb)).trans c1, (w3 _).trans c2⟩
theorem MemNew.drewN {w : World} {N mb ab n cap : Nat} {A S : Nat → Nat} {W X : Nat → Bool} {B : Nat → Nat} (h : MemNew w N mb ab n cap A S W X B) (q : Nat) : MemNew (w.drewN q) N mb ab n cap A S W X B := h
theorem one_regs (w : World) (a s : Nat) (p x : Bool) (t : TypeId) : RegsAt (w.alloc (.cells #[.int .u64 a, .int .u64 s, .bool p, .bool x] t)) w.heap.size 1 (fun _ => a) (fun _ => s) (fun _ => p) (fun _ => x) := by
  intro q hq
  rw [World.cell?_alloc_at _ _ _ _ rfl]
  have : q = 0 ∨ q = 1 ∨ q = 2 ∨ q = 3 := by omega
  rcases this with rfl | rfl | rfl | rfl <;> rfl
def OneP (a s : Nat) (p x : Bool) (w : World) (e : Ending) (w' : World) : Prop := ∃ mb ab cap B, e = .returned (.tuple #[.pointer (some ⟨mb, 0, none⟩), .int .i64 0]) ∧ MemNew w' w.heap.size mb ab 1 cap (fun _ => a) (fun _ => s) (fun _ => p) (fun _ => x) B ∧ Below w.heap.size w w'
theorem one_new (a s : Nat) (p x : Bool) (w : World) (h1 : a % 8 = 0) (h2 : s % 8 = 0) (h3 : 0 < s) (h4 : s ≤ 16777216) (h5 : a + s ≤ 281474976710656) :
    Calls Try.prog 37 #[.slice (some ⟨w.heap.size, 0, none⟩) 1 1] (w.alloc (.cells #[.int .u64 a, .int .u64 s, .bool p, .bool x] 43)) (OneP a s p x w) := by
  refine (new_y w.heap.size 1 1 (fun _ => a) (fun _ => s) (fun _ => p) (fun _ => x) _ (by omega) (by omega) (by simp) (fun j hj => by omega) (fun j hj => ⟨h1, h2, h3, h4, h5⟩) (Lib.hid (one_regs w a s p x 43))).mono ?_
  rintro e w' ⟨mb, v, B, rfl, hm, hM, hB⟩
  obtain ⟨ab, cap, rfl, hN, _⟩ := hM.mem (N := w.heap.size) (by simp at hm; omega) (by omega) ⟨by omega, fun j hj => ⟨h3, h4, h5⟩⟩
  exact ⟨mb, ab, cap, B, rfl, hN, ((Below.refl _ _).alloc (Nat.le_refl _) _).trans (hB.mono (by simp))⟩
section
variable {w : World} {N mb ab cap a s : Nat} {p x : Bool} {B : Nat → Nat}
theorem o_no (a0 o : Nat) : ∀ j : Nat, j < 0 → ¬ inA (fun _ => a0) (fun _ => o) j o := fun j hj => by omega
theorem o_write (HN : Hid (MemNew w N mb ab 1 cap (fun _ => a) (fun _ => s) (fun _ => true) (fun _ => x) B)) (y o v : Nat) (hy : y = a + o) (ho : o + 8 ≤ s) (h8 : y % 8 = 0) (hv : v < 18446744073709551616) :
    Calls Try.prog 38 #[.pointer (some ⟨mb, 0, none⟩), .int .u64 y, .int .u64 v] w fun e w' => e = .returned (.int .i64 0) ∧ Wrote w w' (B 0) o v 8 :=
  write_y mb ab 1 cap 0 o y v _ _ _ _ B w (by omega) (fun j hj => by omega) (Lib.hid hy) ho h8 hv rfl (fun j hj => by obtain ⟨c, _, c1, c2⟩ := HN.out.2.2.2.2.2 0 (o + j) (by omega) (by show o + j < s; omega); exact ⟨by rw [c1]; rfl, c2⟩) (Lib.hid HN.out.1)
theorem o_byte (HN : Hid (MemNew w N mb ab 1 cap (fun _ => a) (fun _ => s) (fun _ => p) (fun _ => x) B)) (y o : Nat) (c : Int) (hy : y = a + o) (ho : o < s) (hc : w.cell? ⟨B 0, o, none⟩ = some (.int .u8 c)) :
    Calls Try.prog 39 #[.pointer (some ⟨mb, 0, none⟩), .int .u64 y] w fun e w' => e = .returned (.tuple #[.int .u8 c, .int .i64 0]) ∧ ∃ q, w' = w.drewN q :=
  byte_y mb ab 1 cap 0 o y c _ _ _ _ B w (by omega) (fun j hj => by omega) (Lib.hid hy) ho hc (Lib.hid HN.out.1)
theorem o_read (HN : Hid (MemNew w N mb ab 1 cap (fun _ => a) (fun _ => s) (fun _ => p) (fun _ => x) B)) (y o : Nat) (hy : y = a + o) (ho : o + 8 ≤ s) (h8 : y % 8 ≠ 0) :
    Calls Try.prog 94 #[.pointer (some ⟨mb, 0, none⟩), .int .u64 y] w fun e w' => e = .returned (.tuple #[.int .u64 0, .int .i64 8]) ∧ ∃ q, w' = w.drewN q :=
  read_s mb ab 1 cap 0 o y _ _ _ _ B w (by omega) (fun j hj => by omega) (Lib.hid hy) ho h8 (Lib.hid HN.out.1)
theorem o_word_x (HN : Hid (MemNew w N mb ab 1 cap (fun _ => a) (fun _ => s) (fun _ => p) (fun _ => false) B)) (y o : Nat) (hy : y = a + o) (ho : o < s) (h4 : y % 4 = 0) (hz : y < 18446744073709551616) :
    Calls Try.prog 40 #[.pointer (some ⟨mb, 0, none⟩), .int .u64 y] w fun e w' => e = .returned (.tuple #[.int .u32 0, .int .i64 8]) ∧ ∃ q, w' = w.drewN q :=
  word_x mb ab 1 cap 0 y _ _ _ _ B w (by omega) hz (fun j hj => by omega) ⟨by show a ≤ y; omega, by show y < a + s; omega⟩ rfl h4 (Lib.hid HN.out.1)
theorem o_word (HN : Hid (MemNew w N mb ab 1 cap (fun _ => a) (fun _ => s) (fun _ => p) (fun _ => true) B)) (y o : Nat) (c0 c1 c2 c3 : Nat) (hy : y = a + o) (ho : o + 4 ≤ s) (h4 : y % 4 = 0) (b0 : c0 < 256) (b1 : c1 < 256) (b2 : c2 < 256) (b3 : c3 < 256) (e0 : w.cell? ⟨B 0, o, none⟩ = some (.int .u8 (c0 : Nat))) (e1 : w.cell? ⟨B 0, o + 1, none⟩ = some (.int .u8 (c1 : Nat))) (e2 : w.cell? ⟨B 0, o + 2, none⟩ = some (.int .u8 (c2 : Nat))) (e3 : w.cell? ⟨B 0, o + 3, none⟩ = some (.int .u8 (c3 : Nat))) :
    Calls Try.prog 40 #[.pointer (some ⟨mb, 0, none⟩), .int .u64 y] w fun e w' => e = .returned (.tuple #[.int .u32 (c0 + 256 * c1 + 65536 * c2 + 16777216 * c3 : Nat), .int .i64 0]) ∧ ∃ q, w' = w.drewN q :=
  word_y mb ab 1 cap 0 o y c0 c1 c2 c3 _ _ _ _ B w (by omega) (fun j hj => by omega) (Lib.hid hy) ho h4 rfl b0 b1 b2 b3 e0 e1 e2 e3 (Lib.hid HN.out.1)
end
theorem MemNew.out {w w' : World} {N mb ab n cap o v m : Nat} {A S : Nat → Nat} {W X : Nat → Bool} {B : Nat → Nat} (h : MemNew w N mb ab n cap A S W X B) (hn : 0 < n) (hw : Wrote w w' (B 0) o v m) : Below N w w' := hw.1.mono (h.2.2.2.1 0 hn).1
set_option maxRecDepth 100000 in
set_option maxHeartbeats 2000000 in
theorem known_m (w : World) : Calls Try.prog 36 #[] w fun e w' => e = .returned (.bool true) ∧ Below w.heap.size w w' := by
  go_enter Try.func36, Try.ntmps36
  go_wp2_with (go_at_call 37; refine (one_new 4096 16 true false _ (by omega) (by omega) (by omega) (by omega) (by omega)).mono ?_; rintro e w1 ⟨mb, ab, cap, B, rfl, hN, hB⟩; have HN := Lib.hid hN; have HB1 := Lib.hid hB; clear hN hB)
  refine (o_write HN 4096 0 1 (by omega) (by omega) (by omega) (by omega)).mono ?_
  rintro e w2 ⟨rfl, hW⟩
  have HN2 := Lib.hid (HN.out.wrote (by omega) hW)
  have HB2 := Lib.hid (HB1.out.trans (HN.out.out (by omega) hW))
  have hc : w2.cell? ⟨B 0, 0, none⟩ = some (.int .u8 1) := hW.2.2.2.2 0 (by omega)
  clear hW HN HB1
  go_wp2_with (first | (go_at_call 39; refine (o_byte HN2 4096 0 1 (by omega) (by omega) hc).mono ?_; rintro e w3 ⟨rfl, q3, rfl⟩) | (go_at_call 94; refine (o_read (Lib.hid (HN2.out.drewN _)) 4100 4 (by omega) (by omega) (by omega)).mono ?_; rintro e w4 ⟨rfl, q4, rfl⟩) | (go_at_call 40; refine (o_word_x (Lib.hid (HN2.out.drewN _)) 4096 0 (by omega) (by omega) (by omega) (by omega)).mono ?_; rintro e w5 ⟨rfl, q5, rfl⟩))
  refine bodyPost_ret (v := .bool true) (by simp [results, Try.results36, go_sem]) rfl ⟨rfl, ?_⟩
  exact below_drewN HB2.out _
end Go.Proofs.Ytapcapcbndooiaa
