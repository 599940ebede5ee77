import Derived.Test.YtpjfjdncdiemlaaRows
import Derived.WalkKit
import Derived.ProofKit
import Derived.OpenShut
import Derived.Deep.QuietTactic
import Derived.BigQuiet
import Derived.Outline
import Derived.WalkSmall
import Derived.WalkLawsBesides
import Derived.WalkSpells
import Derived.BigGuardPart
import Derived.RegionTactic
import Derived.Deep.RegionHeld3
import Derived.Lib.Hide
import Derived.Deep.OwnRows
import Derived.Maps.AppendAt
import Derived.Deep.AppendLies
import Derived.Below
namespace Go.Proofs.Ytpjfjdncdiemlaa
open Go.ChangeShapes Go.WideShapes Go.ChangeAt Go.RowKit
set_option linter.unusedVariables false
/-- Piece j of the row in block pb. -/
def TkAt (w : World) (pb j : Nat) (m a : Int) (wo : Option Addr) (wl wc : Nat) (st f r : Int) : Prop :=
  w.cell? ⟨pb, j * 6, none⟩ = some (.int .i64 m) ∧ w.cell? ⟨pb, j * 6 + 1, none⟩ = some (.int .u64 a) ∧ w.cell? ⟨pb, j * 6 + 2, none⟩ = some (.slice wo wl wc) ∧ w.cell? ⟨pb, j * 6 + 3, none⟩ = some (.int .i64 st) ∧ w.cell? ⟨pb, j * 6 + 4, none⟩ = some (.int .i64 f) ∧ w.cell? ⟨pb, j * 6 + 5, none⟩ = some (.int .i64 r)
theorem TkAt.below {w w' : World} {pb j N : Nat} {m a : Int} {wo : Option Addr} {wl wc : Nat} {st f r : Int} (h : TkAt w pb j m a wo wl wc st f r) (hb : Below N w w') (hp : pb < N) : TkAt w' pb j m a wo wl wc st f r := by
  obtain ⟨a0, a1, a2, a3, a4, a5⟩ := h
  exact ⟨(hb.cell (p := ⟨pb, _, none⟩) hp).trans a0, (hb.cell (p := ⟨pb, _, none⟩) hp).trans a1, (hb.cell (p := ⟨pb, _, none⟩) hp).trans a2, (hb.cell (p := ⟨pb, _, none⟩) hp).trans a3, (hb.cell (p := ⟨pb, _, none⟩) hp).trans a4, (hb.cell (p := ⟨pb, _, none⟩) hp).trans a5⟩
/-- Piece j, whatever it is but for its method. -/
def TkM (w : World) (pb j : Nat) (m : Int) : Prop := ∃ (a : Int) (wo : Option Addr) (wl wc : Nat) (st f r : Int), TkAt w pb j m a wo wl wc st f r
theorem TkM.below {w w' : World} {pb j N : Nat} {m : Int} (h : TkM w pb j m) (hb : Below N w w') (hp : pb < N) : TkM w' pb j m := by
  obtain ⟨a, wo, wl, wc, st, f, r, h⟩ := h
  exact ⟨a, wo, wl, wc, st, f, r, h.below hb hp⟩
theorem same_y (m a : Int) (wo : Option Addr) (wl wc : Nat) (st f r : Int) (kb : Nat) (w : World) (hk : kb < w.heap.size) (hm : w.cell? ⟨kb, 0, none⟩ = some (.int .i64 m)) :
    Calls Try.prog 71 #[.agg #[.int .i64 m, .int .u64 a, .slice wo wl wc, .int .i64 st, .int .i64 f, .int .i64 r], .pointer (some ⟨kb, 0, none⟩)] w fun e w' => e = .returned (.bool true) ∧ Below w.heap.size w w' := by
  go_enter Try.func71, Try.ntmps71
  go_wp2
  go_ret
  exact ⟨rfl, (Below.refl _ _).alloc (Nat.le_refl _) _⟩
theorem same_n (m m' a : Int) (wo : Option Addr) (wl wc : Nat) (st f r : Int) (kb : Nat) (w : World) (hk : kb < w.heap.size) (hm : w.cell? ⟨kb, 0, none⟩ = some (.int .i64 m')) (hne : (m == m') = false) :
    Calls Try.prog 71 #[.agg #[.int .i64 m, .int .u64 a, .slice wo wl wc, .int .i64 st, .int .i64 f, .int .i64 r], .pointer (some ⟨kb, 0, none⟩)] w fun e w' => e = .returned (.bool false) ∧ Below w.heap.size w w' := by
  go_enter Try.func71, Try.ntmps71
  go_wp2
  go_ret
  exact ⟨rfl, (Below.refl _ _).alloc (Nat.le_refl _) _⟩
set_option maxRecDepth 100000 in
set_option maxHeartbeats 2000000 in
theorem index_y (pb n cap k kb : Nat) (m : Int) (w : World) (hk : k < n) (hn : n ≤ 1000) (hp : pb < w.heap.size) (hkb : kb < w.heap.size) (hm : w.cell? ⟨kb, 0, none⟩ = some (.int .i64 m)) (HN : Hid (∀ j, j < k → ∃ m', TkM w pb j m' ∧ (m' == m) = false)) (HK : Hid (TkM w pb k m)) :
    Calls Try.prog 70 #[.slice (some ⟨pb, 0, none⟩) n cap, .func (.func 71) #[] #[.pointer (some ⟨kb, 0, none⟩)]] w fun e w' => e = .returned (.int .i64 k) ∧ Below w.heap.size w w' := by
  go_enter Try.func70, Try.ntmps70
  go_wp2
  go_loopw [5, 8] (fun _ i wr => ∃ j : Nat, j ≤ k ∧ i = .int .i64 j ∧ Hid (Below w.heap.size w wr)) (fun _ i _ => k + 1 - (intOf i).toNat)
  case atStart => exact ⟨0, by omega, rfl, Lib.hid (Below.refl _ _)⟩
  case round =>
    obtain ⟨j, hj, rfl, HB⟩ := hrel
    have gj : (j : Int) < n := by omega
    have hm2 : wr.cell? ⟨kb, 0, none⟩ = some (.int .i64 m) := (HB.out.cell (p := ⟨kb, 0, none⟩) hkb).trans hm
    have hs := HB.out.size
    by_cases hlt : j < k
    · obtain ⟨m', ⟨a, wo, wl, wc, st, f, r, hT⟩, hne⟩ := HN.out j hlt
      obtain ⟨a0, a1, a2, a3, a4, a5⟩ := hT.below HB.out hp
      clear hT
      go_wp2_with (go_at_call 71; refine (same_n m' m a wo wl wc st f r kb _ (by omega) hm2 hne).mono ?_; rintro e w3 ⟨rfl, hb⟩)
      exact ⟨⟨j + 1, by omega, by simp, Lib.hid (HB.out.trans (hb.mono hs))⟩, by simp [intOf]; omega⟩
    · obtain rfl : j = k := by omega
      obtain ⟨a, wo, wl, wc, st, f, r, hT⟩ := HK.out
      obtain ⟨a0, a1, a2, a3, a4, a5⟩ := hT.below HB.out hp
      clear hT
      go_wp2_with (go_at_call 71; refine (same_y m a wo wl wc st f r kb _ (by omega) hm2).mono ?_; rintro e w3 ⟨rfl, hb⟩)
      go_ret
      exact ⟨rfl, HB.out.trans (hb.mono hs)⟩
set_option maxRecDepth 100000 in
set_option maxHeartbeats 2000000 in
theorem index_n (a0 : Option Addr) (pb n cap kb : Nat) (m : Int) (w : World) (hn : n ≤ 1000) (ha : n = 0 ∨ a0 = some ⟨pb, 0, none⟩) (hp : pb < w.heap.size) (hkb : kb < w.heap.size) (hm : w.cell? ⟨kb, 0, none⟩ = some (.int .i64 m)) (HN : Hid (∀ j, j < n → ∃ m', TkM w pb j m' ∧ (m' == m) = false)) :
    Calls Try.prog 70 #[.slice a0 n cap, .func (.func 71) #[] #[.pointer (some ⟨kb, 0, none⟩)]] w fun e w' => e = .returned (.int .i64 (-1)) ∧ Below w.heap.size w w' := by
  go_enter Try.func70, Try.ntmps70
  go_wp2
  go_loopw [5, 8] (fun _ i wr => ∃ j : Nat, j ≤ n ∧ i = .int .i64 j ∧ Hid (Below w.heap.size w wr)) (fun _ i _ => n + 1 - (intOf i).toNat)
  case atStart => exact ⟨0, by omega, rfl, Lib.hid (Below.refl _ _)⟩
  case round =>
    obtain ⟨j, hj, rfl, HB⟩ := hrel
    have hm2 : wr.cell? ⟨kb, 0, none⟩ = some (.int .i64 m) := (HB.out.cell (p := ⟨kb, 0, none⟩) hkb).trans hm
    have hs := HB.out.size
    by_cases hlt : j < n
    · obtain rfl : a0 = some ⟨pb, 0, none⟩ := by rcases ha with h | h; omega; exact h
      have gj : (j : Int) < n := by omega
      obtain ⟨m', ⟨a, wo, wl, wc, st, f, r, hT⟩, hne⟩ := HN.out j hlt
      obtain ⟨a0, a1, a2, a3, a4, a5⟩ := hT.below HB.out hp
      clear hT ha
      go_wp2_with (go_at_call 71; refine (same_n m' m a wo wl wc st f r kb _ (by omega) hm2 hne).mono ?_; rintro e w3 ⟨rfl, hb⟩)
      exact ⟨⟨j + 1, by omega, by simp, Lib.hid (HB.out.trans (hb.mono hs))⟩, by simp [intOf]; omega⟩
    · obtain rfl : j = n := by omega
      go_wp2
      go_ret
      exact ⟨rfl, HB.out⟩
end Go.Proofs.Ytpjfjdncdiemlaa
