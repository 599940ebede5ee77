import Derived.Deep.RegionHeld3
import Derived.Test.YthgpolddbadfmaaWd
namespace Go.Proofs.Ythgpolddbadfmaa
open Go.ChangeShapes Go.WideShapes Go.ChangeAt Go.RowKit Go.Maps
set_option linter.unusedVariables false
/-- What Word answers. -/
def TwoP (x e : Int) (k : IntKind) (w : World) (r : Ending) (w' : World) : Prop := r = .returned (.tuple #[.int .u32 x, .int .i64 e]) ∧ Below w.heap.size w w'
set_option maxRecDepth 100000 in
set_option maxHeartbeats 4000000 in
theorem encw_gen (op d n m a c i x e : Int) (w : World) (h : ∀ b w, w.ownsMap Try.prog 3 (plainElem (H := Unit) Try.prog 25) b 42 DD → Calls Try.prog 25 #[.agg #[.map (some b)], .agg #[.int .i64 op, .int .i64 d, .int .i64 n, .int .i64 m, .int .i64 a, .int .i64 c, .int .i64 i]] w fun r w' => r = .returned (.tuple #[.int .u32 x, .int .i64 e]) ∧ Below w.heap.size w w') :
    Calls Try.prog 10 #[.agg #[.int .i64 op, .int .i64 d, .int .i64 n, .int .i64 m, .int .i64 a, .int .i64 c, .int .i64 i]] w fun r w' => r = .returned (.tuple #[.int .u32 x, .int .i64 e]) ∧ Below w.heap.size w w' := by
  have H := Lib.hid h
  clear h
  go_enter Try.func10, Try.ntmps10
  go_wp2_with fail
  obtain ⟨y, x0, x1, x2, x3, x4, x5, x6⟩ := InsC.new w (.int .i64 op) (.int .i64 d) (.int .i64 n) (.int .i64 m) (.int .i64 a) (.int .i64 c) (.int .i64 i)
  have HB : Hid (Below w.heap.size w (w.alloc (.cells #[.int .i64 op, .int .i64 d, .int .i64 n, .int .i64 m, .int .i64 a, .int .i64 c, .int .i64 i] 23))) := Lib.hid ((Below.refl _ _).alloc (Nat.le_refl _) _)
  obtain ⟨b, hb⟩ : ∃ b, b = w.heap.size := ⟨_, rfl⟩
  have HN : Hid (w.heap.size = b) := Lib.hid hb.symm
  rw [← hb] at y x0 x1 x2 x3 x4 x5 x6
  rw [← hb]
  clear hb
  generalize w.alloc (.cells #[.int .i64 op, .int .i64 d, .int .i64 n, .int .i64 m, .int .i64 a, .int .i64 c, .int .i64 i] 23) = w1 at *
  have HQ : Hid (Below w1.heap.size w1 w1.drew) := Lib.hid (Below.refl _ _).drew
  go_region_held3 (fun w' => w'.cell? ⟨b, 0, none⟩ = some (.int .i64 op) ∧ w'.cell? ⟨b, 1, none⟩ = some (.int .i64 d) ∧ w'.cell? ⟨b, 2, none⟩ = some (.int .i64 n) ∧ w'.cell? ⟨b, 3, none⟩ = some (.int .i64 m) ∧ w'.cell? ⟨b, 4, none⟩ = some (.int .i64 a) ∧ w'.cell? ⟨b, 5, none⟩ = some (.int .i64 c) ∧ w'.cell? ⟨b, 6, none⟩ = some (.int .i64 i) ∧ Hid (Below w1.heap.size w1 w')) (first | exact ⟨x0, x1, x2, x3, x4, x5, x6, HQ⟩ | exact keepC y (by assumption) (by assumption)) (first | (go_at_call 24; refine (bases_c _).mono ?_; rintro r w2 ⟨rfl, hm, hb2⟩; have HM := Lib.hid hm; clear hm) | (go_at_call 25; refine (H.out _ _ HM.out).mono ?_; rintro r w3 ⟨rfl, hb3⟩))
  rename_i hH
  obtain ⟨_, _, _, _, _, _, _, hk⟩ := hH
  have HB5 := Lib.hid (HB.out.trans (hk.out.mono HB.out.size))
  clear hk
  go_wp2
  go_ret2
  exact ⟨rfl, HB5.out⟩
set_option maxRecDepth 100000 in
set_option maxHeartbeats 4000000 in
theorem word_bad (op d n m a c i : Int) (b : Nat) (w : World) (h : ∀ w, Calls Try.prog 16 #[.agg #[.int .i64 op, .int .i64 d, .int .i64 n, .int .i64 m, .int .i64 a, .int .i64 c, .int .i64 i]] w fun e w' => e = .returned (.int .i64 1) ∧ Below w.heap.size w w') :
    Calls Try.prog 25 #[.agg #[.map (some b)], .agg #[.int .i64 op, .int .i64 d, .int .i64 n, .int .i64 m, .int .i64 a, .int .i64 c, .int .i64 i]] w fun r w' => r = .returned (.tuple #[.int .u32 0, .int .i64 1]) ∧ Below w.heap.size w w' := by
  have H := Lib.hid h
  clear h
  go_enter Try.func25, Try.ntmps25
  go_wp2_with fail
  refine (H.out _).mono ?_
  rintro e w1 ⟨rfl, hb⟩
  have HB1 : Hid (Below w.heap.size w w1) := Lib.hid ((((Below.refl _ _).alloc (Nat.le_refl _) _).alloc (by simp) _).trans (hb.mono (by simp; omega)))
  clear hb
  go_wp2
  go_ret2
  exact ⟨rfl, HB1.out⟩
set_option maxRecDepth 100000 in
set_option maxHeartbeats 4000000 in
theorem rword_bad (op d n m a c i : Int) (w : World) (h : ∀ w, Calls Try.prog 26 #[.agg #[.int .i64 op, .int .i64 d, .int .i64 n, .int .i64 m, .int .i64 a, .int .i64 c, .int .i64 i]] w fun e w' => e = .returned (.int .i64 1) ∧ Below w.heap.size w w') :
    Calls Try.prog 11 #[.agg #[.int .i64 op, .int .i64 d, .int .i64 n, .int .i64 m, .int .i64 a, .int .i64 c, .int .i64 i]] w fun r w' => r = .returned (.tuple #[.int .u32 0, .int .i64 1]) ∧ Below w.heap.size w w' := by
  have H := Lib.hid h
  clear h
  go_enter Try.func11, Try.ntmps11
  go_wp2_with fail
  refine (H.out _).mono ?_
  rintro e w1 ⟨rfl, hb⟩
  have HB1 : Hid (Below w.heap.size w w1) := Lib.hid (((Below.refl _ _).alloc (Nat.le_refl _) _).trans (hb.mono (by simp)))
  clear hb
  go_wp2
  go_ret2
  exact ⟨rfl, HB1.out⟩
end Go.Proofs.Ythgpolddbadfmaa
