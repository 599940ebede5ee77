import Derived.Test.YtapcapcbndooiaaRows
import Derived.WalkKit
import Derived.ProofKit
import Derived.OpenShut
import Derived.Deep.QuietTactic
import Derived.BigQuiet
import Derived.Outline
import Derived.WalkSmall
import Derived.WalkLawsBesides
import Derived.WalkSpells
import Derived.BigGuardPart
import Derived.RegionTactic
import Derived.Deep.RegionHeld3
import Derived.Lib.Hide
import Derived.Deep.OwnRows
import Derived.Maps.AppendAt
import Derived.Deep.AppendLies
import Derived.Below
import Derived.Test.YtapcapcbndooiaaNewM
namespace Go.Proofs.Ytapcapcbndooiaa
open Go.ChangeShapes Go.WideShapes Go.ChangeAt Go.RowKit
set_option linter.unusedVariables false
def CmpP (w : World) (e : Ending) (w' : World) : Prop := ∃ r : Int, 0 ≤ r ∧ r ≤ 1 ∧ e = .returned (.int .i64 r) ∧ Below w.heap.size w w'
theorem byPlace_c (a b s t : Nat) (p q r u : Bool) (w : World) (h : b ≤ a) : Calls Try.prog 97 #[.agg #[.int .u64 a, .int .u64 s, .bool p, .bool q], .agg #[.int .u64 b, .int .u64 t, .bool r, .bool u]] w (CmpP w) := by
  have d1 : decide (a < b) = false := decide_eq_false (by omega)
  by_cases hab : b < a
  · have d2 : decide (b < a) = true := decide_eq_true hab
    go_enter Try.func97, Try.ntmps97
    go_wp2
    go_ret
    exact ⟨1, by omega, by omega, rfl, ((Below.refl _ _).alloc (Nat.le_refl _) _).alloc (by simp) _⟩
  · have d2 : decide (b < a) = false := decide_eq_false hab
    go_enter Try.func97, Try.ntmps97
    go_wp2
    go_ret
    exact ⟨0, by omega, by omega, rfl, ((Below.refl _ _).alloc (Nat.le_refl _) _).alloc (by simp) _⟩
set_option maxRecDepth 100000 in
set_option maxHeartbeats 2000000 in
theorem insertion_s (g n cp : Nat) (A S : Nat → Nat) (W X : Nat → Bool) (w : World) (n1 : 1 ≤ n) (n2 : n ≤ 16) (hg : g < w.heap.size) (hsort : ∀ j, j + 1 < n → A j ≤ A (j + 1)) (HR : Hid (RegsAt w g n A S W X)) :
    Calls Try.prog 131 #[.slice (some ⟨g, 0, none⟩) n cp, .int .i64 0, .int .i64 n, .func (.func 97) #[] #[]] w fun e w' => e = .returned (.tuple #[]) ∧ Below w.heap.size w w' := by
  have HS := Lib.hid hsort
  clear hsort
  go_enter Try.func131, Try.ntmps131
  go_wp2
  go_loopw [8, 9] (fun i _ wr => ∃ j : Nat, j + 1 ≤ n ∧ i = .int .i64 (j + 1 : Nat) ∧ Hid (Below w.heap.size w wr)) (fun i _ _ => n + 1 - (intOf i).toNat)
  case atStart => exact ⟨0, by omega, rfl, Lib.hid (Below.refl _ _)⟩
  case round =>
    obtain ⟨j, hj2, rfl, HB⟩ := hrel
    by_cases hlt : j + 1 < n
    · obtain ⟨wo, rfl⟩ : ∃ wo : World, wo = wr := ⟨_, rfl⟩
      go_wp2
      go_loopw [9] (fun k wi => k = .int .i64 (j + 1 : Nat) ∧ wi = wo) (fun _ _ => 0)
      case atStart => exact ⟨rfl, rfl⟩
      case round =>
        obtain ⟨rfl, rfl⟩ := hrel
        obtain ⟨f1, f2, f3, f4⟩ := (HR.out.below HB.out hg).four (j + 1) hlt
        obtain ⟨e1, e2, e3, e4⟩ := (HR.out.below HB.out hg).four j (by omega)
        have hd : decide ((0 : Int) < ((j : Int) + 1)) = true := decide_eq_true (by omega)
        have hgr : g < wr.drew.heap.size := Nat.lt_of_lt_of_le hg HB.out.size
        have hle := Lib.hid (HS.out j hlt)
        have i1 : (0 : Int) ≤ (j : Int) := by omega
        have i2 : (j : Int) + 1 < (n : Int) := by omega
        have i3 : (j : Int) < (n : Int) := by omega
        have i4 : (0 : Int) ≤ (j : Int) + 1 := by omega
        have i5 : IntKind.i64.wrap ((j : Int) + 1 - 1) = (j : Int) := by rw [IntKind.wrap_i64]; omega
        have i6 : IntKind.i64.wrap (j : Int) = (j : Int) := by rw [IntKind.wrap_i64]; omega
        go_wp2
        go_region_held3 (fun w' => w'.cell? ⟨g, (j + 1) * 4, none⟩ = some (.int .u64 (A (j + 1) : Nat)) ∧ w'.cell? ⟨g, (j + 1) * 4 + 1, none⟩ = some (.int .u64 (S (j + 1) : Nat)) ∧ w'.cell? ⟨g, (j + 1) * 4 + 2, none⟩ = some (.bool (W (j + 1))) ∧ w'.cell? ⟨g, (j + 1) * 4 + 3, none⟩ = some (.bool (X (j + 1))) ∧
          w'.cell? ⟨g, j * 4, none⟩ = some (.int .u64 (A j : Nat)) ∧ w'.cell? ⟨g, j * 4 + 1, none⟩ = some (.int .u64 (S j : Nat)) ∧ w'.cell? ⟨g, j * 4 + 2, none⟩ = some (.bool (W j)) ∧ w'.cell? ⟨g, j * 4 + 3, none⟩ = some (.bool (X j)))
          (first | go_keep | exact ⟨(hb.cell (p := ⟨g, _, none⟩) hgr).trans f1, (hb.cell (p := ⟨g, _, none⟩) hgr).trans f2, (hb.cell (p := ⟨g, _, none⟩) hgr).trans f3, (hb.cell (p := ⟨g, _, none⟩) hgr).trans f4, (hb.cell (p := ⟨g, _, none⟩) hgr).trans e1, (hb.cell (p := ⟨g, _, none⟩) hgr).trans e2, (hb.cell (p := ⟨g, _, none⟩) hgr).trans e3, (hb.cell (p := ⟨g, _, none⟩) hgr).trans e4⟩)
          ((go_at_call 97; refine (byPlace_c (A (j + 1)) (A j) (S (j + 1)) (S j) (W (j + 1)) (X (j + 1)) (W j) (X j) _ hle.out).mono ?_; rintro e w' ⟨r, r0, r1, rfl, hb⟩))
        have HB2 := Lib.hid (HB.out.trans ((below_drewN (Below.refl _ _) 1).trans (hb.mono (Nat.le_trans HB.out.size (Nat.le_refl _)))))
        go_wp2
        exact ⟨⟨j + 1, by omega, by simp, HB2⟩, by simp [intOf]; omega⟩
    · obtain rfl : j + 1 = n := by omega
      go_wp2
      refine bodyPost_end (v := .tuple #[]) (by simp [results, Try.results131, go_sem]) rfl ⟨rfl, HB.out⟩
set_option maxRecDepth 100000 in
theorem stable_s (g n cp : Nat) (A S : Nat → Nat) (W X : Nat → Bool) (w : World) (n1 : 1 ≤ n) (n2 : n ≤ 16) (hg : g < w.heap.size) (hsort : ∀ j, j + 1 < n → A j ≤ A (j + 1)) (HR : Hid (RegsAt w g n A S W X)) :
    Calls Try.prog 123 #[.slice (some ⟨g, 0, none⟩) n cp, .int .i64 n, .func (.func 97) #[] #[]] w fun e w' => e = .returned (.tuple #[]) ∧ Below w.heap.size w w' := by
  have HS := Lib.hid hsort
  clear hsort
  have d1 : decide ((20 : Int) ≤ (n : Int)) = false := decide_eq_false (by omega)
  have d2 : decide ((20 : Int) < (n : Int)) = false := decide_eq_false (by omega)
  go_enter Try.func123, Try.ntmps123
  go_wp2
  go_loopw [7, 8] (fun a b wr => a = .int .i64 0 ∧ b = .int .i64 20 ∧ wr = w) (fun _ _ _ => 0)
  case atStart => exact ⟨rfl, rfl, rfl⟩
  case round =>
    obtain ⟨rfl, rfl, rfl⟩ := hrel
    go_wp2_with (go_at_call 131; refine (insertion_s g n cp A S W X _ n1 n2 hg HS.out HR).mono ?_; rintro e w1 ⟨rfl, hb⟩)
    go_loopw [6] (fun b wi => b = .int .i64 20 ∧ wi = w1) (fun _ _ => 0)
    case atStart => exact ⟨rfl, rfl⟩
    case round =>
      obtain ⟨rfl, rfl⟩ := hrel
      go_wp2
      refine bodyPost_end (v := .tuple #[]) (by simp [results, Try.results123, go_sem]) rfl ⟨rfl, hb⟩
set_option maxRecDepth 100000 in
theorem sort_s (g n cp : Nat) (A S : Nat → Nat) (W X : Nat → Bool) (w : World) (n1 : 1 ≤ n) (n2 : n ≤ 16) (hg : g < w.heap.size) (hsort : ∀ j, j + 1 < n → A j ≤ A (j + 1)) (HR : Hid (RegsAt w g n A S W X)) :
    Calls Try.prog 96 #[.slice (some ⟨g, 0, none⟩) n cp, .func (.func 97) #[] #[]] w fun e w' => e = .returned (.tuple #[]) ∧ Below w.heap.size w w' := by
  have HS := Lib.hid hsort
  clear hsort
  go_enter Try.func96, Try.ntmps96
  go_wp2_with (go_at_call 123; refine (stable_s g n cp A S W X _ n1 n2 hg HS.out HR).mono ?_; rintro e w1 ⟨rfl, hb⟩)
  refine bodyPost_end (v := .tuple #[]) (by simp [results, Try.results96, go_sem]) rfl ⟨rfl, hb⟩
end Go.Proofs.Ytapcapcbndooiaa
