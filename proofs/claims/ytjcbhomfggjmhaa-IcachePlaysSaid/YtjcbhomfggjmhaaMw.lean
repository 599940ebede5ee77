import Derived.Test.YtjcbhomfggjmhaaNa
namespace Go.Proofs.Ytjcbhomfggjmhaa.Mm
open Go.ChangeShapes Go.WideShapes Go.ChangeAt Go.RowKit
set_option linter.unusedVariables false
/-- The memory of the law's known. -/
def kMe : Me := zMe 1 (fun _ => 4096) (fun _ => 16) (fun _ => true) (fun _ => false)
theorem new_1 (w : World) (u : Value) (hb : RgSrc w u 1 (fun _ => 4096) (fun _ => 16) (fun _ => true) (fun _ => false)) :
    Calls Try.prog 5 #[u] w fun e w' => (∃ mb v B C, e = .returned (.tuple #[.pointer (some ⟨mb, 0, none⟩), .int .i64 0]) ∧ MeC 64 67 w' (fun k => w.heap.size ≤ k ∧ k < w'.heap.size) mb kMe v B C) ∧ Below w.heap.size w w' := by
  refine (new_c w u 1 _ _ _ _ hb (by omega)).mono ?_
  rintro e w' ⟨hbw, A, S, W, X, ⟨π, _, _, rfl, rfl, rfl, rfl⟩, _, ⟨_, mb, v, B, C, rfl, hm⟩ | ⟨hn, _⟩⟩
  · exact ⟨⟨mb, v, B, C, rfl, hm⟩, hbw⟩
  · refine absurd ?_ hn
    intro i hi
    obtain rfl : i = 0 := by omega
    exact ⟨⟨by show 4096 % 8 = 0; omega, by show 16 % 8 = 0; omega, by show 0 < 16; omega, by show 16 ≤ 16777216; omega, by show 4096 + 16 ≤ 281474976710656; omega⟩, Nat.zero_le _⟩
theorem known58_hs (m o : Nat) (h : o < 16) (h2 : o + m ≤ 16) (l : List Nat) : Hs (kMe.ld 0 0 l) (4096 + o) m 0 o := by
  obtain ⟨e1, e2, e3, _⟩ := ld_same 0 l kMe 0
  unfold Hs
  rw [e1, e2, e3]
  exact ⟨Nat.zero_lt_one, rfl, h, h2⟩
end Go.Proofs.Ytjcbhomfggjmhaa.Mm
