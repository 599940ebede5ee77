import Derived.Test.YthgpolddbadfmaaGq
namespace Go.Proofs.Ythgpolddbadfmaa
open Go.ChangeShapes Go.WideShapes Go.ChangeAt Go.RowKit
set_option linter.unusedVariables false
theorem check_y (op d n m a c i : Int) (j : Nat) (hj : j < 43) (ho : op = (j : Int)) (h : okN j d n m a c i = true) (w : World) : Calls Try.prog 16 #[I7 op d n m a c i] w fun e w' => e = .returned (.int .i64 0) ∧ Below w.heap.size w w' := by
  have : j = 0 ∨ j = 1 ∨ j = 2 ∨ j = 3 ∨ j = 4 ∨ j = 5 ∨ j = 6 ∨ j = 7 ∨ j = 8 ∨ j = 9 ∨ j = 10 ∨ j = 11 ∨ j = 12 ∨ j = 13 ∨ j = 14 ∨ j = 15 ∨ j = 16 ∨ j = 17 ∨ j = 18 ∨ j = 19 ∨ j = 20 ∨ j = 21 ∨ j = 22 ∨ j = 23 ∨ j = 24 ∨ j = 25 ∨ j = 26 ∨ j = 27 ∨ j = 28 ∨ j = 29 ∨ j = 30 ∨ j = 31 ∨ j = 32 ∨ j = 33 ∨ j = 34 ∨ j = 35 ∨ j = 36 ∨ j = 37 ∨ j = 38 ∨ j = 39 ∨ j = 40 ∨ j = 41 ∨ j = 42 := by omega
  subst ho
  rcases this with rfl | rfl | rfl | rfl | rfl | rfl | rfl | rfl | rfl | rfl | rfl | rfl | rfl | rfl | rfl | rfl | rfl | rfl | rfl | rfl | rfl | rfl | rfl | rfl | rfl | rfl | rfl | rfl | rfl | rfl | rfl | rfl | rfl | rfl | rfl | rfl | rfl | rfl | rfl | rfl | rfl | rfl | rfl
  · have hc := check_0 d n m a c i w; rw [show ok_0 d n m a c i = true from h] at hc; exact hc
  · have hc := check_1 d n m a c i w; rw [show ok_1 d n m a c i = true from h] at hc; exact hc
  · have hc := check_2 d n m a c i w; rw [show ok_2 d n m a c i = true from h] at hc; exact hc
  · have hc := check_3 d n m a c i w; rw [show ok_3 d n m a c i = true from h] at hc; exact hc
  · have hc := check_4 d n m a c i w; rw [show ok_4 d n m a c i = true from h] at hc; exact hc
  · have hc := check_5 d n m a c i w; rw [show ok_5 d n m a c i = true from h] at hc; exact hc
  · have hc := check_6 d n m a c i w; rw [show ok_6 d n m a c i = true from h] at hc; exact hc
  · have hc := check_7 d n m a c i w; rw [show ok_7 d n m a c i = true from h] at hc; exact hc
  · have hc := check_8 d n m a c i w; rw [show ok_8 d n m a c i = true from h] at hc; exact hc
  · have hc := check_9 d n m a c i w; rw [show ok_9 d n m a c i = true from h] at hc; exact hc
  · have hc := check_10 d n m a c i w; rw [show ok_10 d n m a c i = true from h] at hc; exact hc
  · have hc := check_11 d n m a c i w; rw [show ok_11 d n m a c i = true from h] at hc; exact hc
  · have hc := check_12 d n m a c i w; rw [show ok_12 d n m a c i = true from h] at hc; exact hc
  · have hc := check_13 d n m a c i w; rw [show ok_13 d n m a c i = true from h] at hc; exact hc
  · have hc := check_14 d n m a c i w; rw [show ok_14 d n m a c i = true from h] at hc; exact hc
  · have hc := check_15 d n m a c i w; rw [show ok_15 d n m a c i = true from h] at hc; exact hc
  · have hc := check_16 d n m a c i w; rw [show ok_16 d n m a c i = true from h] at hc; exact hc
  · have hc := check_17 d n m a c i w; rw [show ok_17 d n m a c i = true from h] at hc; exact hc
  · have hc := check_18 d n m a c i w; rw [show ok_18 d n m a c i = true from h] at hc; exact hc
  · have hc := check_19 d n m a c i w; rw [show ok_19 d n m a c i = true from h] at hc; exact hc
  · have hc := check_20 d n m a c i w; rw [show ok_20 d n m a c i = true from h] at hc; exact hc
  · have hc := check_21 d n m a c i w; rw [show ok_21 d n m a c i = true from h] at hc; exact hc
  · have hc := check_22 d n m a c i w; rw [show ok_22 d n m a c i = true from h] at hc; exact hc
  · have hc := check_23 d n m a c i w; rw [show ok_23 d n m a c i = true from h] at hc; exact hc
  · have hc := check_24 d n m a c i w; rw [show ok_24 d n m a c i = true from h] at hc; exact hc
  · have hc := check_25 d n m a c i w; rw [show ok_25 d n m a c i = true from h] at hc; exact hc
  · have hc := check_26 d n m a c i w; rw [show ok_26 d n m a c i = true from h] at hc; exact hc
  · have hc := check_27 d n m a c i w; rw [show ok_27 d n m a c i = true from h] at hc; exact hc
  · have hc := check_28 d n m a c i w; rw [show ok_28 d n m a c i = true from h] at hc; exact hc
  · have hc := check_29 d n m a c i w; rw [show ok_29 d n m a c i = true from h] at hc; exact hc
  · have hc := check_30 d n m a c i w; rw [show ok_30 d n m a c i = true from h] at hc; exact hc
  · have hc := check_31 d n m a c i w; rw [show ok_31 d n m a c i = true from h] at hc; exact hc
  · have hc := check_32 d n m a c i w; rw [show ok_32 d n m a c i = true from h] at hc; exact hc
  · have hc := check_33 d n m a c i w; rw [show ok_33 d n m a c i = true from h] at hc; exact hc
  · have hc := check_34 d n m a c i w; rw [show ok_34 d n m a c i = true from h] at hc; exact hc
  · have hc := check_35 d n m a c i w; rw [show ok_35 d n m a c i = true from h] at hc; exact hc
  · have hc := check_36 d n m a c i w; rw [show ok_36 d n m a c i = true from h] at hc; exact hc
  · have hc := check_37 d n m a c i w; rw [show ok_37 d n m a c i = true from h] at hc; exact hc
  · have hc := check_38 d n m a c i w; rw [show ok_38 d n m a c i = true from h] at hc; exact hc
  · have hc := check_39 d n m a c i w; rw [show ok_39 d n m a c i = true from h] at hc; exact hc
  · have hc := check_40 d n m a c i w; rw [show ok_40 d n m a c i = true from h] at hc; exact hc
  · have hc := check_41 d n m a c i w; rw [show ok_41 d n m a c i = true from h] at hc; exact hc
  · have hc := check_42 d n m a c i w; rw [show ok_42 d n m a c i = true from h] at hc; exact hc
theorem encw_y (op d n m a c i : Int) (j : Nat) (hj : j < 43) (ho : op = (j : Int)) (h : okN j d n m a c i = true) (w : World) : Calls Try.prog 10 #[I7 op d n m a c i] w fun r w' => r = .returned (.tuple #[.int .u32 (wordN j d n m a c i), .int .i64 0]) ∧ Below w.heap.size w w' := by
  have : j = 0 ∨ j = 1 ∨ j = 2 ∨ j = 3 ∨ j = 4 ∨ j = 5 ∨ j = 6 ∨ j = 7 ∨ j = 8 ∨ j = 9 ∨ j = 10 ∨ j = 11 ∨ j = 12 ∨ j = 13 ∨ j = 14 ∨ j = 15 ∨ j = 16 ∨ j = 17 ∨ j = 18 ∨ j = 19 ∨ j = 20 ∨ j = 21 ∨ j = 22 ∨ j = 23 ∨ j = 24 ∨ j = 25 ∨ j = 26 ∨ j = 27 ∨ j = 28 ∨ j = 29 ∨ j = 30 ∨ j = 31 ∨ j = 32 ∨ j = 33 ∨ j = 34 ∨ j = 35 ∨ j = 36 ∨ j = 37 ∨ j = 38 ∨ j = 39 ∨ j = 40 ∨ j = 41 ∨ j = 42 := by omega
  subst ho
  rcases this with rfl | rfl | rfl | rfl | rfl | rfl | rfl | rfl | rfl | rfl | rfl | rfl | rfl | rfl | rfl | rfl | rfl | rfl | rfl | rfl | rfl | rfl | rfl | rfl | rfl | rfl | rfl | rfl | rfl | rfl | rfl | rfl | rfl | rfl | rfl | rfl | rfl | rfl | rfl | rfl | rfl | rfl | rfl
  · exact encw_gen 0 d n m a c i _ 0 w (fun b w hm => word_0 d n m a c i b w h hm)
  · exact encw_gen 1 d n m a c i _ 0 w (fun b w hm => word_1 d n m a c i b w h hm)
  · exact encw_gen 2 d n m a c i _ 0 w (fun b w hm => word_2 d n m a c i b w h hm)
  · exact encw_gen 3 d n m a c i _ 0 w (fun b w hm => word_3 d n m a c i b w h hm)
  · exact encw_gen 4 d n m a c i _ 0 w (fun b w hm => word_4 d n m a c i b w h hm)
  · exact encw_gen 5 d n m a c i _ 0 w (fun b w hm => word_5 d n m a c i b w h hm)
  · exact encw_gen 6 d n m a c i _ 0 w (fun b w hm => word_6 d n m a c i b w h hm)
  · exact encw_gen 7 d n m a c i _ 0 w (fun b w hm => word_7 d n m a c i b w h hm)
  · exact encw_gen 8 d n m a c i _ 0 w (fun b w hm => word_8 d n m a c i b w h hm)
  · exact encw_gen 9 d n m a c i _ 0 w (fun b w hm => word_9 d n m a c i b w h hm)
  · exact encw_gen 10 d n m a c i _ 0 w (fun b w hm => word_10 d n m a c i b w h hm)
  · exact encw_gen 11 d n m a c i _ 0 w (fun b w hm => word_11 d n m a c i b w h hm)
  · exact encw_gen 12 d n m a c i _ 0 w (fun b w hm => word_12 d n m a c i b w h hm)
  · exact encw_gen 13 d n m a c i _ 0 w (fun b w hm => word_13 d n m a c i b w h hm)
  · exact encw_gen 14 d n m a c i _ 0 w (fun b w hm => word_14 d n m a c i b w h hm)
  · exact encw_gen 15 d n m a c i _ 0 w (fun b w hm => word_15 d n m a c i b w h hm)
  · exact encw_gen 16 d n m a c i _ 0 w (fun b w hm => word_16 d n m a c i b w h hm)
  · exact encw_gen 17 d n m a c i _ 0 w (fun b w hm => word_17 d n m a c i b w h hm)
  · exact encw_gen 18 d n m a c i _ 0 w (fun b w hm => word_18 d n m a c i b w h hm)
  · exact encw_gen 19 d n m a c i _ 0 w (fun b w hm => word_19 d n m a c i b w h hm)
  · exact encw_gen 20 d n m a c i _ 0 w (fun b w hm => word_20 d n m a c i b w h hm)
  · exact encw_gen 21 d n m a c i _ 0 w (fun b w hm => word_21 d n m a c i b w h hm)
  · exact encw_gen 22 d n m a c i _ 0 w (fun b w hm => word_22 d n m a c i b w h hm)
  · exact encw_gen 23 d n m a c i _ 0 w (fun b w hm => word_23 d n m a c i b w h hm)
  · exact encw_gen 24 d n m a c i _ 0 w (fun b w hm => word_24 d n m a c i b w h hm)
  · exact encw_gen 25 d n m a c i _ 0 w (fun b w hm => word_25 d n m a c i b w h hm)
  · exact encw_gen 26 d n m a c i _ 0 w (fun b w hm => word_26 d n m a c i b w h hm)
  · exact encw_gen 27 d n m a c i _ 0 w (fun b w hm => word_27 d n m a c i b w h hm)
  · exact encw_gen 28 d n m a c i _ 0 w (fun b w hm => word_28 d n m a c i b w h hm)
  · exact encw_gen 29 d n m a c i _ 0 w (fun b w hm => word_29 d n m a c i b w h hm)
  · exact encw_gen 30 d n m a c i _ 0 w (fun b w hm => word_30 d n m a c i b w h hm)
  · exact encw_gen 31 d n m a c i _ 0 w (fun b w hm => word_31 d n m a c i b w h hm)
  · exact encw_gen 32 d n m a c i _ 0 w (fun b w hm => word_32 d n m a c i b w h hm)
  · exact encw_gen 33 d n m a c i _ 0 w (fun b w hm => word_33 d n m a c i b w h hm)
  · exact encw_gen 34 d n m a c i _ 0 w (fun b w hm => word_34 d n m a c i b w h hm)
  · exact encw_gen 35 d n m a c i _ 0 w (fun b w hm => word_35 d n m a c i b w h hm)
  · exact encw_gen 36 d n m a c i _ 0 w (fun b w hm => word_36 d n m a c i b w h hm)
  · exact encw_gen 37 d n m a c i _ 0 w (fun b w hm => word_37 d n m a c i b w h hm)
  · exact encw_gen 38 d n m a c i _ 0 w (fun b w hm => word_38 d n m a c i b w h hm)
  · exact encw_gen 39 d n m a c i _ 0 w (fun b w hm => word_39 d n m a c i b w h hm)
  · exact encw_gen 40 d n m a c i _ 0 w (fun b w hm => word_40 d n m a c i b w h hm)
  · exact encw_gen 41 d n m a c i _ 0 w (fun b w hm => word_41 d n m a c i b w h hm)
  · exact encw_gen 42 d n m a c i _ 0 w (fun b w hm => word_42 d n m a c i b w h hm)
theorem wordN_range (j : Nat) (hj : j < 43) (d n m a c i : Int) : 0 ≤ wordN j d n m a c i ∧ wordN j d n m a c i < 4294967296 := by
  obtain ⟨l, hl, hw⟩ := wordN_lays j hj d n m a c i
  rw [hw]
  exact lays_range l _ (base_range j hj)
/-- A right instruction's word is that instruction's. -/
theorem decP_of (j : Nat) (hj : j < 43) (d n m a c i : Int) (h : okN j d n m a c i = true) : DecP (wordN j d n m a c i) (j : Int) d n m a c i := by
  by_cases h0 : j = 0
  · subst h0
    have h' : ok_0 d n m a c i = true := h
    simp only [ok_0, wi, Bool.and_eq_true, decide_eq_true_eq, beq_iff_eq] at h'
    obtain ⟨⟨⟨⟨⟨rfl, rfl⟩, rfl⟩, rfl⟩, rfl⟩, h1, h2⟩ := h'
    have hw : wordN 0 0 0 0 0 0 i = i := put_zero i ⟨h1, h2⟩
    refine .inr ⟨⟨rfl, rfl, rfl, rfl, rfl, rfl, ?_⟩, fun j2 h1' h43' d2 n2 m2 a2 c2 i2 hok' hw' => ?_⟩
    · rw [hw]
      unfold fd
      simp only [show (2 : Int) ^ 0 = 1 from rfl, show (2 : Int) ^ 16 = 65536 from rfl]
      omega
    · obtain ⟨l, hl, hlw⟩ := wordN_lays 0 (by decide) 0 0 0 0 0 i
      obtain ⟨l', hl', hlw'⟩ := wordN_lays j2 h43' d2 n2 m2 a2 c2 i2
      have := unlike_ops 0 j2 (by decide) h43' l l' hl hl' (by rw [← hlw, ← hlw', hw'])
      omega
  · exact .inl ⟨j, by omega, hj, rfl, h, rfl⟩
/-- A word's instruction is right, and has that word, or is UDF of its lowest bits. -/
theorem decP_back {x o d n m a c i : Int} (h : DecP x o d n m a c i) : ∃ j : Nat, j < 43 ∧ o = (j : Int) ∧ okN j d n m a c i = true ∧ (o ≠ 0 → wordN j d n m a c i = x) ∧ (o = 0 → i = fd x 0 16) := by
  rcases h with ⟨j, h1, h43, rfl, hok, hw⟩ | ⟨⟨rfl, rfl, rfl, rfl, rfl, rfl, rfl⟩, _⟩
  · exact ⟨j, h43, rfl, hok, fun _ => hw, fun h => by omega⟩
  · refine ⟨0, by decide, rfl, ?_, fun h => absurd rfl h, fun _ => rfl⟩
    show ok_0 0 0 0 0 0 (fd x 0 16) = true
    unfold ok_0
    exact and6 rfl rfl rfl rfl rfl (fd_in x 0 16 65535 rfl)
end Go.Proofs.Ythgpolddbadfmaa
