import Derived.Test.YtapcapcbndooiaaRows
import Derived.WalkKit
import Derived.ProofKit
import Derived.OpenShut
import Derived.Deep.QuietTactic
import Derived.BigQuiet
import Derived.Outline
import Derived.WalkSmall
import Derived.WalkLawsBesides
import Derived.WalkSpells
import Derived.BigGuardPart
import Derived.RegionTactic
import Derived.Deep.RegionHeld3
import Derived.Lib.Hide
import Derived.Deep.OwnRows
import Derived.Maps.AppendAt
import Derived.Deep.AppendLies
import Derived.Below
import Derived.Test.YtapcapcbndooiaaMemA
namespace Go.Proofs.Ytapcapcbndooiaa
open Go.ChangeShapes Go.WideShapes Go.ChangeAt Go.RowKit
set_option linter.unusedVariables false
/-- A slice of regions that came in. -/
def SliceR (w : World) (a : Option Addr) (n cap : Nat) : Prop := n ≤ cap ∧ cap ≤ maxLen ∧ (n = 0 ∨ ∃ b off A S W X, a = some ⟨b, off, none⟩ ∧ b < w.heap.size ∧ SrcAt w b off n A S W X)
theorem SliceR.below {w w' : World} {a : Option Addr} {n cap : Nat} (h : SliceR w a n cap) (hb : Below w.heap.size w w') : SliceR w' a n cap := by
  refine ⟨h.1, h.2.1, ?_⟩
  rcases h.2.2 with h | ⟨b, off, A, S, W, X, rfl, hlt, hR⟩
  · exact Or.inl h
  · exact Or.inr ⟨b, off, A, S, W, X, rfl, Nat.lt_of_lt_of_le hlt hb.size, fun p hp => (hb.cell (p := ⟨b, off + p, none⟩) hlt).trans (hR p hp)⟩
def NewA (n : Nat) (w : World) (e : Ending) (w' : World) : Prop := Below w.heap.size w w' ∧ (e = .returned (.tuple #[.pointer none, .int .i64 1]) ∨ ∃ mb A S W X B, e = .returned (.tuple #[.pointer (some ⟨mb, 0, none⟩), .int .i64 0]) ∧ MemAny w' w.heap.size mb n A S W X B)
theorem new_any (a : Option Addr) (n cap : Nat) (w : World) (h : SliceR w a n cap) : Calls Try.prog 37 #[.slice a n cap] w (NewA n w) := by
  have hm : n ≤ maxLen := Nat.le_trans h.1 h.2.1
  by_cases h16 : 16 < n
  · refine (new_b a n cap w h16 hm).mono ?_
    rintro e w' ⟨rfl, rfl⟩
    exact ⟨Below.refl _ _, Or.inl rfl⟩
  · by_cases h0 : n = 0
    · subst h0
      refine (new_0 a cap w).mono ?_
      rintro e w' ⟨mb, rfl, hmb, hc, hB⟩
      exact ⟨hB, Or.inr ⟨mb, fun _ => 0, fun _ => 0, fun _ => false, fun _ => false, fun _ => 0, rfl, Or.inl ⟨rfl, hc⟩⟩⟩
    · rcases h.2.2 with h | ⟨b, off, A, S, W, X, rfl, hlt, hR⟩
      · exact absurd h h0
      · refine (new_g b off n cap A S W X w (by omega) (by omega) hlt (Lib.hid hR)).mono ?_
        rintro e w' ⟨hB, rfl | ⟨A, S, W, X, mb, v, B, rfl, hmb, hM, hr, hs⟩⟩
        · exact ⟨hB, Or.inl rfl⟩
        · obtain ⟨ab, cp, rfl, hN, _⟩ := hM.mem hmb (by omega) ⟨by omega, fun j hj => by have := hr j hj; omega⟩
          exact ⟨hB, Or.inr ⟨mb, A, S, W, X, B, rfl, Or.inr ⟨by omega, hr, hs, ab, cp, hN⟩⟩⟩
theorem few_any (a : Option Addr) (n cap : Nat) (w : World) (h : SliceR w a n cap) : Calls Try.prog 41 #[.slice a n cap, .slice none 0 0] w (SomeB w) := by
  by_cases h0 : n = 0
  · subst h0; exact few_0 a cap w
  · rcases h.2.2 with g | ⟨b, off, A, S, W, X, rfl, hlt, hR⟩
    · exact absurd g h0
    · exact few_c b off n cap A S W X w (Nat.le_trans h.1 h.2.1) (Lib.hid hR)
set_option maxRecDepth 1000000 in
set_option maxHeartbeats 4000000 in
theorem memApart_w (a : Option Addr) (n cap y v x : Nat) (w : World) (hy : y < 18446744073709551616) (hv : v < 18446744073709551616) (hx : x < 18446744073709551616) (h : SliceR w a n cap) :
    Calls Try.prog 8 #[.slice a n cap, .int .u64 y, .int .u64 v, .int .u64 x] w fun e w' => e = .returned (.bool true) ∧ Below w.heap.size w w' := by
  have HS := Lib.hid h
  clear h
  go_enter Try.func8, Try.ntmps8
  go_wp2_with (go_at_call 36; refine (known_m _).mono ?_; rintro e w1 ⟨rfl, hb1⟩; have HB1 := Lib.hid hb1; have HS1 := Lib.hid (HS.out.below hb1); clear hb1)
  refine (few_any a n cap _ HS1.out).mono ?_
  rintro e w' ⟨b, rfl, rfl⟩
  cases b with
  | false =>
    go_wp2
    go_ret
    exact ⟨rfl, HB1.out⟩
  | true =>
    go_wp2_with fail
    refine (new_any a n cap _ HS1.out).mono ?_
    rintro e w2 ⟨hB2, rfl | ⟨mb, A, S, W, X, B, rfl, hM⟩⟩
    · have HB2 := Lib.hid (HB1.out.trans (hB2.mono HB1.out.size))
      clear hB2
      go_wp2
      go_ret
      exact ⟨rfl, HB2.out⟩
    · have HB2 := Lib.hid (HB1.out.trans (hB2.mono HB1.out.size))
      have HM := Lib.hid hM
      clear hB2 hM
      go_wp2_with fail
      refine (byte_any _ mb n x A S W X B _ hx HM).mono ?_
      rintro e w3 ⟨c, f, rfl, hI, q, rfl⟩
      have HI := Lib.hid hI
      clear hI
      go_wp2_with fail
      refine (write_any _ mb n y v A S W X B _ hy hv (Lib.hid (HM.out.drewN _))).mono ?_
      rintro e w4 (⟨rfl, q2, rfl⟩ | ⟨rfl, k, hk, h1, h2, hW⟩)
      · go_wp2_with fail
        refine (byte_any _ mb n x A S W X B _ hx (Lib.hid (HM.out.drewN _))).mono ?_
        rintro e w5 ⟨c', f', rfl, hI', q3, rfl⟩
        obtain ⟨rfl, rfl⟩ : c = c' ∧ f = f' := by
          rcases HM.out with ⟨rfl, hc⟩ | ⟨hn, hr, hs, _⟩
          · exact ByteIs.uniq (fun j hj => by omega) HI.out hI'
          · exact ByteIs.uniq hs HI.out hI'
        clear hI'
        go_wp2
        refine bodyPost_ret (v := .bool true) (by simp [results, Try.results8, go_sem]) rfl ⟨rfl, below_drewN HB2.out _⟩
      · have hMW := MemAny.wrote (w := w2.drewN q) HM.out hk hW
        have HM4 := Lib.hid hMW.1
        have HB4 := Lib.hid ((below_drewN HB2.out q).trans (hMW.2.mono HB1.out.size))
        have HW := Lib.hid hW
        clear hW hMW
        go_wp2_with fail
        refine (byte_any _ mb n x A S W X B _ hx HM4).mono ?_
        rintro e w5 ⟨c', f', rfl, hI', q3, rfl⟩
        obtain ⟨rfl, hin, hout⟩ := ByteIs.wrote (w := w2.drewN q) HM.out hk h1 h2 HW.out HI.out hI'
        clear hI'
        by_cases hr : y ≤ x ∧ x < y + 8
        · have hc' := hin hr
          clear hin hout
          obtain ⟨t, ht⟩ : ∃ t, t = x - y := ⟨_, rfl⟩
          rw [← ht] at hc'
          have ht1 : IntKind.u64.wrap ((x : Int) - (y : Int)) = (t : Int) := by rw [IntKind.wrap_u64]; omega
          have ht8 : t < 8 := by omega
          have d1 : decide (x < y) = false := decide_eq_false (by omega)
          have d2 : decide (8 ≤ t) = false := decide_eq_false (by omega)
          have d3 : decide ((8 : Int) ≤ (t : Int)) = false := decide_eq_false (by omega)
          have hcv : (v : Int) / 2 ^ (8 * t) % 256 = (c' : Int) := by rw [hc', byteOf_cast]
          clear hc' ht hr
          go_wp2
          refine bodyPost_ret (v := .bool true) (by simp [results, Try.results8, go_sem]) rfl ⟨rfl, below_drewN HB4.out _⟩
        · obtain rfl := hout hr
          clear hin hout
          by_cases hlt : x < y
          · have d1 : decide (x < y) = true := decide_eq_true hlt
            clear hr
            go_wp2
            refine bodyPost_ret (v := .bool true) (by simp [results, Try.results8, go_sem]) rfl ⟨rfl, below_drewN HB4.out _⟩
          · have d1 : decide (x < y) = false := decide_eq_false hlt
            obtain ⟨t, ht⟩ : ∃ t, t = x - y := ⟨_, rfl⟩
            have ht1 : IntKind.u64.wrap ((x : Int) - (y : Int)) = (t : Int) := by rw [IntKind.wrap_u64]; omega
            have ht8 : 8 ≤ t := by omega
            have d2 : decide (8 ≤ t) = true := decide_eq_true (by omega)
            have d3 : decide ((8 : Int) ≤ (t : Int)) = true := decide_eq_true (by omega)
            clear ht hr
            go_wp2
            refine bodyPost_ret (v := .bool true) (by simp [results, Try.results8, go_sem]) rfl ⟨rfl, below_drewN HB4.out _⟩
end Go.Proofs.Ytapcapcbndooiaa
