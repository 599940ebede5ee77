import Derived.Test.YthgpolddbadfmaaRows
import Derived.WalkKit
import Derived.ProofKit
import Derived.OpenShut
import Derived.Outline
import Derived.WalkSmall
import Derived.WalkLawsBesides
import Derived.WalkSpells
import Derived.BigGuardPart
import Derived.RegionTactic
import Derived.Lib.Hide
import Derived.Below
import Derived.Deep.RegionWith
import Derived.Deep.RegionHeld3
import Derived.Test.YthgpolddbadfmaaIs
import Derived.Test.YthgpolddbadfmaaCkA
namespace Go.Proofs.Ythgpolddbadfmaa
open Go.ChangeShapes Go.WideShapes Go.ChangeAt Go.RowKit
set_option linter.unusedVariables false
set_option maxRecDepth 100000 in
set_option maxHeartbeats 2000000 in
theorem check_t (op d n m a c i F : Int) (w : World) (h34 : ∀ w, Calls Try.prog 27 #[.int .i64 op] w fun e w' => e = .returned (.bool true) ∧ w' = w) (h36 : ∀ w, Calls Try.prog 29 #[.int .i64 op] w fun e w' => e = .returned (.int .i64 F) ∧ w' = w) (h35 : ∀ w, Calls Try.prog 28 #[.agg #[.int .i64 op, .int .i64 d, .int .i64 n, .int .i64 m, .int .i64 a, .int .i64 c, .int .i64 i], .int .i64 F] w fun e w' => e = .returned (.bool true) ∧ Below w.heap.size w w') (h37 : ∀ w, Calls Try.prog 30 #[.agg #[.int .i64 op, .int .i64 d, .int .i64 n, .int .i64 m, .int .i64 a, .int .i64 c, .int .i64 i]] w fun e w' => e = .returned (.bool true) ∧ Below w.heap.size w w') (h38 : ∀ w, Calls Try.prog 31 #[.agg #[.int .i64 op, .int .i64 d, .int .i64 n, .int .i64 m, .int .i64 a, .int .i64 c, .int .i64 i]] w fun e w' => e = .returned (.bool true) ∧ Below w.heap.size w w') (h39 : ∀ w, Calls Try.prog 32 #[.agg #[.int .i64 op, .int .i64 d, .int .i64 n, .int .i64 m, .int .i64 a, .int .i64 c, .int .i64 i]] w fun e w' => e = .returned (.bool true) ∧ Below w.heap.size w w') :
    Calls Try.prog 16 #[.agg #[.int .i64 op, .int .i64 d, .int .i64 n, .int .i64 m, .int .i64 a, .int .i64 c, .int .i64 i]] w fun e w' => e = .returned (.int .i64 0) ∧ Below w.heap.size w w' := by
  have H34 := Lib.hid h34
  have H36 := Lib.hid h36
  have H35 := Lib.hid h35
  have H37 := Lib.hid h37
  have H38 := Lib.hid h38
  have H39 := Lib.hid h39
  clear h34 h36 h35 h37 h38 h39
  go_enter Try.func16, Try.ntmps16
  go_wp2_with fail
  obtain ⟨x, x0, x1, x2, x3, x4, x5, x6⟩ := InsC.new w (.int .i64 op) (.int .i64 d) (.int .i64 n) (.int .i64 m) (.int .i64 a) (.int .i64 c) (.int .i64 i)
  have HB : Hid (Below w.heap.size w (w.alloc (.cells #[.int .i64 op, .int .i64 d, .int .i64 n, .int .i64 m, .int .i64 a, .int .i64 c, .int .i64 i] 23))) := Lib.hid ((Below.refl _ _).alloc (Nat.le_refl _) _)
  obtain ⟨b, hb⟩ : ∃ b, b = w.heap.size := ⟨_, rfl⟩
  have HN : Hid (w.heap.size = b) := Lib.hid hb.symm
  rw [← hb] at x x0 x1 x2 x3 x4 x5 x6
  rw [← hb]
  clear hb
  generalize w.alloc (.cells #[.int .i64 op, .int .i64 d, .int .i64 n, .int .i64 m, .int .i64 a, .int .i64 c, .int .i64 i] 23) = w1 at *
  have HQ : Hid (Below w1.heap.size w1 w1.drew) := Lib.hid (Below.refl _ _).drew
  first | (go_region_held3 (fun w' => w'.cell? ⟨b, 0, none⟩ = some (.int .i64 op) ∧ w'.cell? ⟨b, 1, none⟩ = some (.int .i64 d) ∧ w'.cell? ⟨b, 2, none⟩ = some (.int .i64 n) ∧ w'.cell? ⟨b, 3, none⟩ = some (.int .i64 m) ∧ w'.cell? ⟨b, 4, none⟩ = some (.int .i64 a) ∧ w'.cell? ⟨b, 5, none⟩ = some (.int .i64 c) ∧ w'.cell? ⟨b, 6, none⟩ = some (.int .i64 i) ∧ Hid (Below w1.heap.size w1 w')) (first | exact ⟨x0, x1, x2, x3, x4, x5, x6, HQ⟩ | exact keepC x (by assumption) (by assumption)) (first | (go_at_call 27; refine (H34.out _).mono ?_; rintro e w' ⟨rfl, rfl⟩) | (go_at_call 29; refine (H36.out _).mono ?_; rintro e w' ⟨rfl, rfl⟩) | (go_at_call 28; refine (H35.out _).mono ?_; rintro e w' ⟨rfl, hb⟩) | (go_at_call 30; refine (H37.out _).mono ?_; rintro e w' ⟨rfl, hb⟩) | (go_at_call 31; refine (H38.out _).mono ?_; rintro e w' ⟨rfl, hb⟩) | (go_at_call 32; refine (H39.out _).mono ?_; rintro e w' ⟨rfl, hb⟩))) | fail
  rename_i hH
  obtain ⟨_, _, _, _, _, _, _, hk⟩ := hH
  have HB5 := Lib.hid (HB.out.trans (hk.out.mono HB.out.size))
  clear hk
  go_wp2
  go_ret
  exact ⟨rfl, HB5.out⟩
end Go.Proofs.Ythgpolddbadfmaa
