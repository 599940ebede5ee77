import Derived.Test.YtpiafgmncfibmaaPg
import Derived.Test.YtpiafgmncfibmaaRows
import Derived.WalkKit
import Derived.ProofKit
import Derived.OpenShut
import Derived.Deep.QuietTactic
import Derived.BigQuiet
import Derived.Outline
import Derived.WalkSmall
import Derived.WalkLawsBesides
import Derived.WalkSpells
import Derived.BigGuardPart
import Derived.RegionTactic
import Derived.Deep.RegionHeld3
import Derived.Lib.Hide
import Derived.Deep.MidRow
import Derived.Below
import Derived.Deep.RegionWith
import Derived.Deep.OwnRows
import Derived.Deep.AppendLies
namespace Go.Proofs.Ytpiafgmncfibmaa
open Go.ChangeShapes Go.WideShapes Go.ChangeAt Go.RowKit
set_option linter.unusedVariables false
/-- A value's type. -/
def isTB (t : Int) : Bool := t == 1 || t == 2
theorem isT_y {t : Int} (h : isTB t = true) : t = 1 ∨ t = 2 := by simpa [isTB] using h
theorem isT_n {t : Int} (h : isTB t = false) : t ≠ 1 ∧ t ≠ 2 := by simpa [isTB] using h
theorem type_c (t : Int) (b : Bool) (w : World) (h : isTB t = b) : Calls Try.prog 77 #[.int .i64 t] w fun e w' => e = .returned (.bool b) ∧ w = w' := by
  cases b with
  | true =>
    have h := Lib.hid (isT_y h)

    rcases h.out with rfl | rfl
    · clear h
      go_enter Try.func77, Try.ntmps77
      go_wp2
      go_ret
      exact ⟨rfl, rfl⟩
    · clear h
      go_enter Try.func77, Try.ntmps77
      go_wp2
      go_ret
      exact ⟨rfl, rfl⟩
  | false =>
    obtain ⟨h1, h2⟩ := isT_n h
    clear h
    have d1 : (t == 1) = false := by simpa using h1
    have d2 : (t == 2) = false := by simpa using h2
    clear h1 h2
    go_enter Try.func77, Try.ntmps77
    go_wp2
    go_ret
    exact ⟨rfl, rfl⟩
theorem notype_c (t : Int) (b : Bool) (w : World) (h : isTB t = b) : Calls Try.prog 80 #[.int .i64 t] w fun e w' => e = .returned (.bool (!b)) ∧ w = w' := by
  have H := Lib.hid h
  clear h
  go_enter Try.func80, Try.ntmps80
  go_wp2_with (first | (go_at_call 77; refine (type_c t b _ H.out).mono ?_; rintro e w' ⟨rfl, rfl⟩))
  go_ret
  exact ⟨rfl, rfl⟩
def isRB (t : Int) : Bool := t == 0 || isTB t
theorem ret_c (t : Int) (b : Bool) (w : World) (h : isRB t = b) : Calls Try.prog 74 #[.int .i64 t] w fun e w' => e = .returned (.bool b) ∧ w = w' := by
  by_cases h0 : t = 0
  · subst h0
    have : b = true := by rw [← h]; rfl
    subst this
    clear h
    go_enter Try.func74, Try.ntmps74
    go_wp2
    go_ret
    exact ⟨rfl, rfl⟩
  · have d1 : (t == 0) = false := by simpa using h0
    have H : Hid (isTB t = b) := Lib.hid (by simpa [isRB, d1] using h)
    clear h h0
    go_enter Try.func74, Try.ntmps74
    go_wp2_with (first | (go_at_call 77; refine (type_c t b _ H.out).mono ?_; rintro e w' ⟨rfl, rfl⟩))
    go_ret
    exact ⟨rfl, rfl⟩
theorem many_c (a : Option Addr) (n c : Nat) (b : Bool) (w : World) (h : decide (50 < n) = b) : Calls Try.prog 36 #[.slice a n c] w fun e w' => e = .returned (.bool b) ∧ w = w' := by
  have h2 : decide ((50 : Int) < (n : Int)) = b := by rw [← h]; exact decide_eq_decide.2 (by omega)
  clear h
  go_enter Try.func36, Try.ntmps36
  go_wp2
  go_ret
  exact ⟨rfl, rfl⟩
theorem field_c (t : Int) (v : Bool) (b : Bool) (w : World) (h : isTB t = b) : Calls Try.prog 76 #[.agg #[.int .i64 t, .bool v]] w fun e w' => e = .returned (.bool (!b)) ∧ Below w.heap.size w w' := by
  have H := Lib.hid h
  clear h
  go_enter Try.func76, Try.ntmps76
  go_wp2_with (first | (go_at_call 77; refine (type_c t b _ H.out).mono ?_; rintro e w' ⟨rfl, rfl⟩))
  go_ret
  exact ⟨rfl, (Below.refl _ _).alloc (Nat.le_refl _) _⟩
def mth (a0 : Option Addr) (n0 c0 : Nat) (r : Int) (a1 : Option Addr) (n1 c1 : Nat) (s : Int) (a2 : Option Addr) (n2 c2 : Nat) : Array Value := #[.slice a0 n0 c0, .int .i64 r, .slice a1 n1 c1, .int .i64 s, .slice a2 n2 c2]
def chkM (n0 : Nat) (r : Int) (n1 : Nat) (s : Int) (n2 : Nat) : Int :=
  if n0 + n1 > 40 ∨ s > 40 ∨ n2 > 4096 then 2 else if s < 0 ∨ isRB r = false then 1 else if n2 = 0 then 26 else 0
theorem first_c (a0 : Option Addr) (n0 c0 : Nat) (r : Int) (a1 : Option Addr) (n1 c1 : Nat) (s : Int) (a2 : Option Addr) (n2 c2 : Nat) (b : Bool) (w : World) (h : decide (n0 = 0 ∧ r = 0) = b) :
    Calls Try.prog 41 #[.agg #[.slice a0 n0 c0, .int .i64 r, .slice a1 n1 c1, .int .i64 s, .slice a2 n2 c2]] w fun e w' => e = .returned (.bool b) ∧ Below w.heap.size w w' := by
  by_cases h0 : n0 = 0
  · subst h0
    have d2 : (r == 0) = b := by rw [← h]; by_cases hr : r = 0 <;> simp [hr]
    clear h
    go_enter Try.func41, Try.ntmps41
    go_wp2
    go_ret
    exact ⟨rfl, (Below.refl _ _).alloc (Nat.le_refl _) _⟩
  · have hb : b = false := by rw [← h]; simp [h0]
    subst hb
    have d1 : ((n0 : Int) == 0) = false := by simpa using h0
    clear h h0
    go_enter Try.func41, Try.ntmps41
    go_wp2
    go_ret
    exact ⟨rfl, (Below.refl _ _).alloc (Nat.le_refl _) _⟩
end Go.Proofs.Ytpiafgmncfibmaa
