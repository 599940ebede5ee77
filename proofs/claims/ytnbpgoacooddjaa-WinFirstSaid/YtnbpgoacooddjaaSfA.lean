import Derived.Test.YtnbpgoacooddjaaRows
import Derived.WalkKit
import Derived.ProofKit
import Derived.OpenShut
import Derived.Deep.QuietTactic
import Derived.BigQuiet
import Derived.Outline
import Derived.WalkSmall
import Derived.WalkLawsBesides
import Derived.WalkSpells
import Derived.BigGuardPart
import Derived.RegionTactic
import Derived.Deep.RegionHeld3
import Derived.Lib.Hide
import Derived.Deep.MidRow
import Derived.Below
import Derived.Deep.RegionWith
import Derived.Test.YtnbpgoacooddjaaSmG
namespace Go.Proofs.Ytnbpgoacooddjaa
open Go.ChangeShapes Go.WideShapes Go.ChangeAt Go.RowKit
set_option linter.unusedVariables false
attribute [local go_sem ↓] ld76 ld25 ld38
attribute [local go_sem] rowAt_drew rowAt_drewN
theorem mem_y (o : Int) (h1 : 28 ≤ o) (h2 : o ≤ 36) (w : World) : Calls Try.prog 154 #[.int .i64 o] w fun e w' => e = .returned (.bool true) ∧ w' = w := by
  have d1 : decide ((28 : Int) ≤ o) = true := decide_eq_true h1
  have d2 : decide (o ≤ (36 : Int)) = true := decide_eq_true h2
  go_enter Try.func154, Try.ntmps154
  go_wp2
  go_ret
  exact ⟨rfl, rfl⟩
theorem mem_n1 (o : Int) (h : o < 28) (w : World) : Calls Try.prog 154 #[.int .i64 o] w fun e w' => e = .returned (.bool false) ∧ w' = w := by
  have d1 : decide ((28 : Int) ≤ o) = false := decide_eq_false (by omega)
  go_enter Try.func154, Try.ntmps154
  go_wp2
  go_ret
  exact ⟨rfl, rfl⟩
theorem mem_n2 (o : Int) (h1 : 28 ≤ o) (h2 : 36 < o) (w : World) : Calls Try.prog 154 #[.int .i64 o] w fun e w' => e = .returned (.bool false) ∧ w' = w := by
  have d1 : decide ((28 : Int) ≤ o) = true := decide_eq_true h1
  have d2 : decide (o ≤ (36 : Int)) = false := decide_eq_false (by omega)
  go_enter Try.func154, Try.ntmps154
  go_wp2
  go_ret
  exact ⟨rfl, rfl⟩
theorem mem_n (o : Int) (h : o < 28 ∨ 36 < o) (w : World) : Calls Try.prog 154 #[.int .i64 o] w fun e w' => e = .returned (.bool false) ∧ w' = w := by
  rcases Int.lt_or_le o 28 with h1 | h1
  · exact mem_n1 o h1 w
  · exact mem_n2 o h1 (by omega) w
theorem coA_sp {i : Array Value} (h : i.size = 7) (pc : Int) (r : Rg) : (coA i pc r)[39]? = some (.int .u64 r.sp) := by
  have := coA_hi (i := i) h pc r 31
  rw [r.at31] at this
  exact this
def spR (n : Int) : Int := if n = 31 then 32 else n
theorem spor_n (n : Int) (h : n ≠ 31) : spR n = n := by unfold spR; rw [if_neg h]
theorem spor_y : spR 31 = 32 := rfl
set_option maxRecDepth 100000 in
set_option maxHeartbeats 4000000 in
theorem first_n (o d n m a c i pc : Int) (r : Rg) (w : World) (h4 : (o == 4) = false) (h5 : (o == 5) = false) (h6 : (o == 6) = false) (hm : o < 28 ∨ 36 < o) :
    Calls Try.prog 213 #[.agg (coA #[.int .i64 o, .int .i64 d, .int .i64 n, .int .i64 m, .int .i64 a, .int .i64 c, .int .i64 i] pc r)] w fun e w' => e = .returned (.int .u64 (r.get n)) ∧ Below w.heap.size w w' := by
  by_cases h : n = 31
  case neg => exact first_c o d n m a c i pc r w (by simpa using h)
  have hn : (n == 31) = true := by simpa using h
  clear h
  have hc0 := coA_lo (i := #[.int .i64 o, .int .i64 d, .int .i64 n, .int .i64 m, .int .i64 a, .int .i64 c, .int .i64 i]) rfl pc r 0 (by omega)
  have hc2 := coA_lo (i := #[.int .i64 o, .int .i64 d, .int .i64 n, .int .i64 m, .int .i64 a, .int .i64 c, .int .i64 i]) rfl pc r 2 (by omega)
  have HA := Lib.hid (coA_all (i := #[.int .i64 o, .int .i64 d, .int .i64 n, .int .i64 m, .int .i64 a, .int .i64 c, .int .i64 i]) rfl pc r)
  have HS := Lib.hid (coA_size (i := #[.int .i64 o, .int .i64 d, .int .i64 n, .int .i64 m, .int .i64 a, .int .i64 c, .int .i64 i]) rfl pc r)
  have HL := Lib.hid (fun w b => core_regs (w := w) (b := b) (i := #[.int .i64 o, .int .i64 d, .int .i64 n, .int .i64 m, .int .i64 a, .int .i64 c, .int .i64 i]) rfl (pc := pc) (r := r))
  have HM := Lib.hid (fun w b => core_all (w := w) (b := b) (i := #[.int .i64 o, .int .i64 d, .int .i64 n, .int .i64 m, .int .i64 a, .int .i64 c, .int .i64 i]) rfl (pc := pc) (r := r))
  simp only [List.getElem?_toArray, List.getElem?_cons_zero, List.getElem?_cons_succ] at hc0 hc2
  generalize hC : coA #[.int .i64 o, .int .i64 d, .int .i64 n, .int .i64 m, .int .i64 a, .int .i64 c, .int .i64 i] pc r = C at *
  have HB := Lib.hid (rowAt_new w C 257)
  clear hC
  go_enter Try.func213, Try.ntmps213
  go_wp2_with (first | (refine wpl_load rfl 26 _ rfl w.heap.size 8 rfl r.arr (HL.out _ _ HB.out) ?_) | (go_at_call 154; refine (mem_n o hm _).mono ?_; rintro e w' ⟨rfl, rfl⟩))
  refine (get11 r n _).mono ?_
  rintro e w2 ⟨rfl, hb⟩
  have HB2 := Lib.hid (((Below.refl _ _).alloc (Nat.le_refl _) (.cells C 257)).trans (hb.mono (by simp)))
  clear hb
  go_wp2
  go_ret
  exact ⟨rfl, HB2.out⟩
set_option maxRecDepth 100000 in
set_option maxHeartbeats 4000000 in
theorem first_4 (d n m a c i pc : Int) (r : Rg) (w : World) :
    Calls Try.prog 213 #[.agg (coA #[.int .i64 4, .int .i64 d, .int .i64 n, .int .i64 m, .int .i64 a, .int .i64 c, .int .i64 i] pc r)] w fun e w' => e = .returned (.int .u64 (r.get (spR n))) ∧ Below w.heap.size w w' := by
  by_cases h : n = 31
  case neg => rw [spor_n n h]; exact first_c 4 d n m a c i pc r w (by simpa using h)
  subst h
  rw [spor_y, Rg.get_sp]
  have h31 := coA_sp (i := #[.int .i64 4, .int .i64 d, .int .i64 31, .int .i64 m, .int .i64 a, .int .i64 c, .int .i64 i]) rfl pc r
  have hc0 := coA_lo (i := #[.int .i64 4, .int .i64 d, .int .i64 31, .int .i64 m, .int .i64 a, .int .i64 c, .int .i64 i]) rfl pc r 0 (by omega)
  have hc2 := coA_lo (i := #[.int .i64 4, .int .i64 d, .int .i64 31, .int .i64 m, .int .i64 a, .int .i64 c, .int .i64 i]) rfl pc r 2 (by omega)
  have HA := Lib.hid (coA_all (i := #[.int .i64 4, .int .i64 d, .int .i64 31, .int .i64 m, .int .i64 a, .int .i64 c, .int .i64 i]) rfl pc r)
  have HS := Lib.hid (coA_size (i := #[.int .i64 4, .int .i64 d, .int .i64 31, .int .i64 m, .int .i64 a, .int .i64 c, .int .i64 i]) rfl pc r)
  have HL := Lib.hid (fun w b => core_regs (w := w) (b := b) (i := #[.int .i64 4, .int .i64 d, .int .i64 31, .int .i64 m, .int .i64 a, .int .i64 c, .int .i64 i]) rfl (pc := pc) (r := r))
  have HM := Lib.hid (fun w b => core_all (w := w) (b := b) (i := #[.int .i64 4, .int .i64 d, .int .i64 31, .int .i64 m, .int .i64 a, .int .i64 c, .int .i64 i]) rfl (pc := pc) (r := r))
  simp only [List.getElem?_toArray, List.getElem?_cons_zero, List.getElem?_cons_succ] at hc0 hc2
  generalize hC : coA #[.int .i64 4, .int .i64 d, .int .i64 31, .int .i64 m, .int .i64 a, .int .i64 c, .int .i64 i] pc r = C at *
  have HB := Lib.hid (rowAt_new w C 257)
  clear hC
  go_enter Try.func213, Try.ntmps213
  go_wp2_with (first | (refine wpl_load rfl 26 _ rfl w.heap.size 8 rfl r.arr (HL.out _ _ HB.out) ?_) | (go_at_call 154; refine (mem_y _ hm1 hm2 _).mono ?_; rintro e w' ⟨rfl, rfl⟩))
  go_ret
  exact ⟨rfl, (Below.refl _ _).alloc (Nat.le_refl _) (.cells C 257)⟩
set_option maxRecDepth 100000 in
set_option maxHeartbeats 4000000 in
theorem first_5 (d n m a c i pc : Int) (r : Rg) (w : World) :
    Calls Try.prog 213 #[.agg (coA #[.int .i64 5, .int .i64 d, .int .i64 n, .int .i64 m, .int .i64 a, .int .i64 c, .int .i64 i] pc r)] w fun e w' => e = .returned (.int .u64 (r.get (spR n))) ∧ Below w.heap.size w w' := by
  by_cases h : n = 31
  case neg => rw [spor_n n h]; exact first_c 5 d n m a c i pc r w (by simpa using h)
  subst h
  rw [spor_y, Rg.get_sp]
  have h31 := coA_sp (i := #[.int .i64 5, .int .i64 d, .int .i64 31, .int .i64 m, .int .i64 a, .int .i64 c, .int .i64 i]) rfl pc r
  have hc0 := coA_lo (i := #[.int .i64 5, .int .i64 d, .int .i64 31, .int .i64 m, .int .i64 a, .int .i64 c, .int .i64 i]) rfl pc r 0 (by omega)
  have hc2 := coA_lo (i := #[.int .i64 5, .int .i64 d, .int .i64 31, .int .i64 m, .int .i64 a, .int .i64 c, .int .i64 i]) rfl pc r 2 (by omega)
  have HA := Lib.hid (coA_all (i := #[.int .i64 5, .int .i64 d, .int .i64 31, .int .i64 m, .int .i64 a, .int .i64 c, .int .i64 i]) rfl pc r)
  have HS := Lib.hid (coA_size (i := #[.int .i64 5, .int .i64 d, .int .i64 31, .int .i64 m, .int .i64 a, .int .i64 c, .int .i64 i]) rfl pc r)
  have HL := Lib.hid (fun w b => core_regs (w := w) (b := b) (i := #[.int .i64 5, .int .i64 d, .int .i64 31, .int .i64 m, .int .i64 a, .int .i64 c, .int .i64 i]) rfl (pc := pc) (r := r))
  have HM := Lib.hid (fun w b => core_all (w := w) (b := b) (i := #[.int .i64 5, .int .i64 d, .int .i64 31, .int .i64 m, .int .i64 a, .int .i64 c, .int .i64 i]) rfl (pc := pc) (r := r))
  simp only [List.getElem?_toArray, List.getElem?_cons_zero, List.getElem?_cons_succ] at hc0 hc2
  generalize hC : coA #[.int .i64 5, .int .i64 d, .int .i64 31, .int .i64 m, .int .i64 a, .int .i64 c, .int .i64 i] pc r = C at *
  have HB := Lib.hid (rowAt_new w C 257)
  clear hC
  go_enter Try.func213, Try.ntmps213
  go_wp2_with (first | (refine wpl_load rfl 26 _ rfl w.heap.size 8 rfl r.arr (HL.out _ _ HB.out) ?_) | (go_at_call 154; refine (mem_y _ hm1 hm2 _).mono ?_; rintro e w' ⟨rfl, rfl⟩))
  go_ret
  exact ⟨rfl, (Below.refl _ _).alloc (Nat.le_refl _) (.cells C 257)⟩
set_option maxRecDepth 100000 in
set_option maxHeartbeats 4000000 in
theorem first_6 (d n m a c i pc : Int) (r : Rg) (w : World) :
    Calls Try.prog 213 #[.agg (coA #[.int .i64 6, .int .i64 d, .int .i64 n, .int .i64 m, .int .i64 a, .int .i64 c, .int .i64 i] pc r)] w fun e w' => e = .returned (.int .u64 (r.get (spR n))) ∧ Below w.heap.size w w' := by
  by_cases h : n = 31
  case neg => rw [spor_n n h]; exact first_c 6 d n m a c i pc r w (by simpa using h)
  subst h
  rw [spor_y, Rg.get_sp]
  have h31 := coA_sp (i := #[.int .i64 6, .int .i64 d, .int .i64 31, .int .i64 m, .int .i64 a, .int .i64 c, .int .i64 i]) rfl pc r
  have hc0 := coA_lo (i := #[.int .i64 6, .int .i64 d, .int .i64 31, .int .i64 m, .int .i64 a, .int .i64 c, .int .i64 i]) rfl pc r 0 (by omega)
  have hc2 := coA_lo (i := #[.int .i64 6, .int .i64 d, .int .i64 31, .int .i64 m, .int .i64 a, .int .i64 c, .int .i64 i]) rfl pc r 2 (by omega)
  have HA := Lib.hid (coA_all (i := #[.int .i64 6, .int .i64 d, .int .i64 31, .int .i64 m, .int .i64 a, .int .i64 c, .int .i64 i]) rfl pc r)
  have HS := Lib.hid (coA_size (i := #[.int .i64 6, .int .i64 d, .int .i64 31, .int .i64 m, .int .i64 a, .int .i64 c, .int .i64 i]) rfl pc r)
  have HL := Lib.hid (fun w b => core_regs (w := w) (b := b) (i := #[.int .i64 6, .int .i64 d, .int .i64 31, .int .i64 m, .int .i64 a, .int .i64 c, .int .i64 i]) rfl (pc := pc) (r := r))
  have HM := Lib.hid (fun w b => core_all (w := w) (b := b) (i := #[.int .i64 6, .int .i64 d, .int .i64 31, .int .i64 m, .int .i64 a, .int .i64 c, .int .i64 i]) rfl (pc := pc) (r := r))
  simp only [List.getElem?_toArray, List.getElem?_cons_zero, List.getElem?_cons_succ] at hc0 hc2
  generalize hC : coA #[.int .i64 6, .int .i64 d, .int .i64 31, .int .i64 m, .int .i64 a, .int .i64 c, .int .i64 i] pc r = C at *
  have HB := Lib.hid (rowAt_new w C 257)
  clear hC
  go_enter Try.func213, Try.ntmps213
  go_wp2_with (first | (refine wpl_load rfl 26 _ rfl w.heap.size 8 rfl r.arr (HL.out _ _ HB.out) ?_) | (go_at_call 154; refine (mem_y _ hm1 hm2 _).mono ?_; rintro e w' ⟨rfl, rfl⟩))
  go_ret
  exact ⟨rfl, (Below.refl _ _).alloc (Nat.le_refl _) (.cells C 257)⟩
set_option maxRecDepth 100000 in
set_option maxHeartbeats 4000000 in
theorem first_m (o d n m a c i pc : Int) (r : Rg) (w : World) (h4 : (o == 4) = false) (h5 : (o == 5) = false) (h6 : (o == 6) = false) (hm1 : 28 ≤ o) (hm2 : o ≤ 36) :
    Calls Try.prog 213 #[.agg (coA #[.int .i64 o, .int .i64 d, .int .i64 n, .int .i64 m, .int .i64 a, .int .i64 c, .int .i64 i] pc r)] w fun e w' => e = .returned (.int .u64 (r.get (spR n))) ∧ Below w.heap.size w w' := by
  by_cases h : n = 31
  case neg => rw [spor_n n h]; exact first_c o d n m a c i pc r w (by simpa using h)
  subst h
  rw [spor_y, Rg.get_sp]
  have h31 := coA_sp (i := #[.int .i64 o, .int .i64 d, .int .i64 31, .int .i64 m, .int .i64 a, .int .i64 c, .int .i64 i]) rfl pc r
  have hc0 := coA_lo (i := #[.int .i64 o, .int .i64 d, .int .i64 31, .int .i64 m, .int .i64 a, .int .i64 c, .int .i64 i]) rfl pc r 0 (by omega)
  have hc2 := coA_lo (i := #[.int .i64 o, .int .i64 d, .int .i64 31, .int .i64 m, .int .i64 a, .int .i64 c, .int .i64 i]) rfl pc r 2 (by omega)
  have HA := Lib.hid (coA_all (i := #[.int .i64 o, .int .i64 d, .int .i64 31, .int .i64 m, .int .i64 a, .int .i64 c, .int .i64 i]) rfl pc r)
  have HS := Lib.hid (coA_size (i := #[.int .i64 o, .int .i64 d, .int .i64 31, .int .i64 m, .int .i64 a, .int .i64 c, .int .i64 i]) rfl pc r)
  have HL := Lib.hid (fun w b => core_regs (w := w) (b := b) (i := #[.int .i64 o, .int .i64 d, .int .i64 31, .int .i64 m, .int .i64 a, .int .i64 c, .int .i64 i]) rfl (pc := pc) (r := r))
  have HM := Lib.hid (fun w b => core_all (w := w) (b := b) (i := #[.int .i64 o, .int .i64 d, .int .i64 31, .int .i64 m, .int .i64 a, .int .i64 c, .int .i64 i]) rfl (pc := pc) (r := r))
  simp only [List.getElem?_toArray, List.getElem?_cons_zero, List.getElem?_cons_succ] at hc0 hc2
  generalize hC : coA #[.int .i64 o, .int .i64 d, .int .i64 31, .int .i64 m, .int .i64 a, .int .i64 c, .int .i64 i] pc r = C at *
  have HB := Lib.hid (rowAt_new w C 257)
  clear hC
  go_enter Try.func213, Try.ntmps213
  go_wp2_with (first | (refine wpl_load rfl 26 _ rfl w.heap.size 8 rfl r.arr (HL.out _ _ HB.out) ?_) | (go_at_call 154; refine (mem_y _ hm1 hm2 _).mono ?_; rintro e w' ⟨rfl, rfl⟩))
  go_ret
  exact ⟨rfl, (Below.refl _ _).alloc (Nat.le_refl _) (.cells C 257)⟩
set_option maxRecDepth 100000 in
set_option maxHeartbeats 4000000 in
theorem number_g (o d n m a c i pc : Int) (r : Rg) (w : World) :
    Calls Try.prog 207 #[.agg (coA #[.int .i64 o, .int .i64 d, .int .i64 n, .int .i64 m, .int .i64 a, .int .i64 c, .int .i64 i] pc r)] w fun e w' => e = .returned (.int .u64 (IntKind.u64.wrap i)) ∧ Below w.heap.size w w' := by
  have hc6 := coA_lo (i := #[.int .i64 o, .int .i64 d, .int .i64 n, .int .i64 m, .int .i64 a, .int .i64 c, .int .i64 i]) rfl pc r 6 (by omega)
  have HA := Lib.hid (coA_all (i := #[.int .i64 o, .int .i64 d, .int .i64 n, .int .i64 m, .int .i64 a, .int .i64 c, .int .i64 i]) rfl pc r)
  have HS := Lib.hid (coA_size (i := #[.int .i64 o, .int .i64 d, .int .i64 n, .int .i64 m, .int .i64 a, .int .i64 c, .int .i64 i]) rfl pc r)
  have HL := Lib.hid (fun w b => core_regs (w := w) (b := b) (i := #[.int .i64 o, .int .i64 d, .int .i64 n, .int .i64 m, .int .i64 a, .int .i64 c, .int .i64 i]) rfl (pc := pc) (r := r))
  have HM := Lib.hid (fun w b => core_all (w := w) (b := b) (i := #[.int .i64 o, .int .i64 d, .int .i64 n, .int .i64 m, .int .i64 a, .int .i64 c, .int .i64 i]) rfl (pc := pc) (r := r))
  simp only [List.getElem?_toArray, List.getElem?_cons_zero, List.getElem?_cons_succ] at hc6
  generalize hC : coA #[.int .i64 o, .int .i64 d, .int .i64 n, .int .i64 m, .int .i64 a, .int .i64 c, .int .i64 i] pc r = C at *
  have HB := Lib.hid (rowAt_new w C 257)
  clear hC
  go_enter Try.func207, Try.ntmps207
  go_wp2
  go_ret
  exact ⟨rfl, (Below.refl _ _).alloc (Nat.le_refl _) (.cells C 257)⟩
set_option maxRecDepth 100000 in
set_option maxHeartbeats 4000000 in
theorem target_n (o d n m a c i pc : Int) (r : Rg) (w : World) (h4 : (o == 4) = false) (h5 : (o == 5) = false) :
    Calls Try.prog 193 #[.agg (coA #[.int .i64 o, .int .i64 d, .int .i64 n, .int .i64 m, .int .i64 a, .int .i64 c, .int .i64 i] pc r)] w fun e w' => e = .returned (.int .i64 d) ∧ Below w.heap.size w w' := by
  by_cases h : d = 31
  case neg => exact target_c o d n m a c i pc r w (by simpa using h)
  have hn : (d == 31) = true := by simpa using h
  clear h
  have hc0 := coA_lo (i := #[.int .i64 o, .int .i64 d, .int .i64 n, .int .i64 m, .int .i64 a, .int .i64 c, .int .i64 i]) rfl pc r 0 (by omega)
  have hc1 := coA_lo (i := #[.int .i64 o, .int .i64 d, .int .i64 n, .int .i64 m, .int .i64 a, .int .i64 c, .int .i64 i]) rfl pc r 1 (by omega)
  have HA := Lib.hid (coA_all (i := #[.int .i64 o, .int .i64 d, .int .i64 n, .int .i64 m, .int .i64 a, .int .i64 c, .int .i64 i]) rfl pc r)
  have HS := Lib.hid (coA_size (i := #[.int .i64 o, .int .i64 d, .int .i64 n, .int .i64 m, .int .i64 a, .int .i64 c, .int .i64 i]) rfl pc r)
  have HL := Lib.hid (fun w b => core_regs (w := w) (b := b) (i := #[.int .i64 o, .int .i64 d, .int .i64 n, .int .i64 m, .int .i64 a, .int .i64 c, .int .i64 i]) rfl (pc := pc) (r := r))
  have HM := Lib.hid (fun w b => core_all (w := w) (b := b) (i := #[.int .i64 o, .int .i64 d, .int .i64 n, .int .i64 m, .int .i64 a, .int .i64 c, .int .i64 i]) rfl (pc := pc) (r := r))
  simp only [List.getElem?_toArray, List.getElem?_cons_zero, List.getElem?_cons_succ] at hc0 hc1
  generalize hC : coA #[.int .i64 o, .int .i64 d, .int .i64 n, .int .i64 m, .int .i64 a, .int .i64 c, .int .i64 i] pc r = C at *
  have HB := Lib.hid (rowAt_new w C 257)
  clear hC
  go_enter Try.func193, Try.ntmps193
  go_wp2
  go_ret
  exact ⟨rfl, (Below.refl _ _).alloc (Nat.le_refl _) (.cells C 257)⟩
set_option maxRecDepth 100000 in
set_option maxHeartbeats 4000000 in
theorem target_4 (d n m a c i pc : Int) (r : Rg) (w : World) :
    Calls Try.prog 193 #[.agg (coA #[.int .i64 4, .int .i64 d, .int .i64 n, .int .i64 m, .int .i64 a, .int .i64 c, .int .i64 i] pc r)] w fun e w' => e = .returned (.int .i64 (spR d)) ∧ Below w.heap.size w w' := by
  by_cases h : d = 31
  case neg => rw [spor_n d h]; exact target_c 4 d n m a c i pc r w (by simpa using h)
  subst h
  rw [spor_y]
  have hc0 := coA_lo (i := #[.int .i64 4, .int .i64 31, .int .i64 n, .int .i64 m, .int .i64 a, .int .i64 c, .int .i64 i]) rfl pc r 0 (by omega)
  have hc1 := coA_lo (i := #[.int .i64 4, .int .i64 31, .int .i64 n, .int .i64 m, .int .i64 a, .int .i64 c, .int .i64 i]) rfl pc r 1 (by omega)
  have HA := Lib.hid (coA_all (i := #[.int .i64 4, .int .i64 31, .int .i64 n, .int .i64 m, .int .i64 a, .int .i64 c, .int .i64 i]) rfl pc r)
  have HS := Lib.hid (coA_size (i := #[.int .i64 4, .int .i64 31, .int .i64 n, .int .i64 m, .int .i64 a, .int .i64 c, .int .i64 i]) rfl pc r)
  have HL := Lib.hid (fun w b => core_regs (w := w) (b := b) (i := #[.int .i64 4, .int .i64 31, .int .i64 n, .int .i64 m, .int .i64 a, .int .i64 c, .int .i64 i]) rfl (pc := pc) (r := r))
  have HM := Lib.hid (fun w b => core_all (w := w) (b := b) (i := #[.int .i64 4, .int .i64 31, .int .i64 n, .int .i64 m, .int .i64 a, .int .i64 c, .int .i64 i]) rfl (pc := pc) (r := r))
  simp only [List.getElem?_toArray, List.getElem?_cons_zero, List.getElem?_cons_succ] at hc0 hc1
  generalize hC : coA #[.int .i64 4, .int .i64 31, .int .i64 n, .int .i64 m, .int .i64 a, .int .i64 c, .int .i64 i] pc r = C at *
  have HB := Lib.hid (rowAt_new w C 257)
  clear hC
  go_enter Try.func193, Try.ntmps193
  go_wp2
  go_ret
  exact ⟨rfl, (Below.refl _ _).alloc (Nat.le_refl _) (.cells C 257)⟩
set_option maxRecDepth 100000 in
set_option maxHeartbeats 4000000 in
theorem target_5 (d n m a c i pc : Int) (r : Rg) (w : World) :
    Calls Try.prog 193 #[.agg (coA #[.int .i64 5, .int .i64 d, .int .i64 n, .int .i64 m, .int .i64 a, .int .i64 c, .int .i64 i] pc r)] w fun e w' => e = .returned (.int .i64 (spR d)) ∧ Below w.heap.size w w' := by
  by_cases h : d = 31
  case neg => rw [spor_n d h]; exact target_c 5 d n m a c i pc r w (by simpa using h)
  subst h
  rw [spor_y]
  have hc0 := coA_lo (i := #[.int .i64 5, .int .i64 31, .int .i64 n, .int .i64 m, .int .i64 a, .int .i64 c, .int .i64 i]) rfl pc r 0 (by omega)
  have hc1 := coA_lo (i := #[.int .i64 5, .int .i64 31, .int .i64 n, .int .i64 m, .int .i64 a, .int .i64 c, .int .i64 i]) rfl pc r 1 (by omega)
  have HA := Lib.hid (coA_all (i := #[.int .i64 5, .int .i64 31, .int .i64 n, .int .i64 m, .int .i64 a, .int .i64 c, .int .i64 i]) rfl pc r)
  have HS := Lib.hid (coA_size (i := #[.int .i64 5, .int .i64 31, .int .i64 n, .int .i64 m, .int .i64 a, .int .i64 c, .int .i64 i]) rfl pc r)
  have HL := Lib.hid (fun w b => core_regs (w := w) (b := b) (i := #[.int .i64 5, .int .i64 31, .int .i64 n, .int .i64 m, .int .i64 a, .int .i64 c, .int .i64 i]) rfl (pc := pc) (r := r))
  have HM := Lib.hid (fun w b => core_all (w := w) (b := b) (i := #[.int .i64 5, .int .i64 31, .int .i64 n, .int .i64 m, .int .i64 a, .int .i64 c, .int .i64 i]) rfl (pc := pc) (r := r))
  simp only [List.getElem?_toArray, List.getElem?_cons_zero, List.getElem?_cons_succ] at hc0 hc1
  generalize hC : coA #[.int .i64 5, .int .i64 31, .int .i64 n, .int .i64 m, .int .i64 a, .int .i64 c, .int .i64 i] pc r = C at *
  have HB := Lib.hid (rowAt_new w C 257)
  clear hC
  go_enter Try.func193, Try.ntmps193
  go_wp2
  go_ret
  exact ⟨rfl, (Below.refl _ _).alloc (Nat.le_refl _) (.cells C 257)⟩
set_option maxRecDepth 100000 in
set_option maxHeartbeats 4000000 in
theorem zero_c (o d n m a c i pc : Int) (r : Rg) (w : World) :
    Calls Try.prog 238 #[.agg (coA #[.int .i64 o, .int .i64 d, .int .i64 n, .int .i64 m, .int .i64 a, .int .i64 c, .int .i64 i] pc r)] w fun e w' => e = .returned (.bool (r.get d == 0)) ∧ Below w.heap.size w w' := by
  have hc1 := coA_lo (i := #[.int .i64 o, .int .i64 d, .int .i64 n, .int .i64 m, .int .i64 a, .int .i64 c, .int .i64 i]) rfl pc r 1 (by omega)
  have HA := Lib.hid (coA_all (i := #[.int .i64 o, .int .i64 d, .int .i64 n, .int .i64 m, .int .i64 a, .int .i64 c, .int .i64 i]) rfl pc r)
  have HS := Lib.hid (coA_size (i := #[.int .i64 o, .int .i64 d, .int .i64 n, .int .i64 m, .int .i64 a, .int .i64 c, .int .i64 i]) rfl pc r)
  have HL := Lib.hid (fun w b => core_regs (w := w) (b := b) (i := #[.int .i64 o, .int .i64 d, .int .i64 n, .int .i64 m, .int .i64 a, .int .i64 c, .int .i64 i]) rfl (pc := pc) (r := r))
  have HM := Lib.hid (fun w b => core_all (w := w) (b := b) (i := #[.int .i64 o, .int .i64 d, .int .i64 n, .int .i64 m, .int .i64 a, .int .i64 c, .int .i64 i]) rfl (pc := pc) (r := r))
  simp only [List.getElem?_toArray, List.getElem?_cons_zero, List.getElem?_cons_succ] at hc1
  generalize hC : coA #[.int .i64 o, .int .i64 d, .int .i64 n, .int .i64 m, .int .i64 a, .int .i64 c, .int .i64 i] pc r = C at *
  have HB := Lib.hid (rowAt_new w C 257)
  clear hC
  go_enter Try.func238, Try.ntmps238
  go_wp2_with (first | (refine wpl_load rfl 26 _ rfl w.heap.size 8 rfl r.arr (HL.out _ _ HB.out) ?_))
  refine (get11 r d _).mono ?_
  rintro e w2 ⟨rfl, hb⟩
  have HB2 := Lib.hid (((Below.refl _ _).alloc (Nat.le_refl _) (.cells C 257)).trans (hb.mono (by simp)))
  clear hb
  go_wp2
  go_ret
  exact ⟨rfl, HB2.out⟩
set_option maxRecDepth 100000 in
set_option maxHeartbeats 4000000 in
theorem nzero_c (o d n m a c i pc : Int) (r : Rg) (w : World) :
    Calls Try.prog 239 #[.agg (coA #[.int .i64 o, .int .i64 d, .int .i64 n, .int .i64 m, .int .i64 a, .int .i64 c, .int .i64 i] pc r)] w fun e w' => e = .returned (.bool (r.get d != 0)) ∧ Below w.heap.size w w' := by
  have hc1 := coA_lo (i := #[.int .i64 o, .int .i64 d, .int .i64 n, .int .i64 m, .int .i64 a, .int .i64 c, .int .i64 i]) rfl pc r 1 (by omega)
  have HA := Lib.hid (coA_all (i := #[.int .i64 o, .int .i64 d, .int .i64 n, .int .i64 m, .int .i64 a, .int .i64 c, .int .i64 i]) rfl pc r)
  have HS := Lib.hid (coA_size (i := #[.int .i64 o, .int .i64 d, .int .i64 n, .int .i64 m, .int .i64 a, .int .i64 c, .int .i64 i]) rfl pc r)
  have HL := Lib.hid (fun w b => core_regs (w := w) (b := b) (i := #[.int .i64 o, .int .i64 d, .int .i64 n, .int .i64 m, .int .i64 a, .int .i64 c, .int .i64 i]) rfl (pc := pc) (r := r))
  have HM := Lib.hid (fun w b => core_all (w := w) (b := b) (i := #[.int .i64 o, .int .i64 d, .int .i64 n, .int .i64 m, .int .i64 a, .int .i64 c, .int .i64 i]) rfl (pc := pc) (r := r))
  simp only [List.getElem?_toArray, List.getElem?_cons_zero, List.getElem?_cons_succ] at hc1
  generalize hC : coA #[.int .i64 o, .int .i64 d, .int .i64 n, .int .i64 m, .int .i64 a, .int .i64 c, .int .i64 i] pc r = C at *
  have HB := Lib.hid (rowAt_new w C 257)
  clear hC
  go_enter Try.func239, Try.ntmps239
  go_wp2_with (first | (refine wpl_load rfl 26 _ rfl w.heap.size 8 rfl r.arr (HL.out _ _ HB.out) ?_))
  refine (get11 r d _).mono ?_
  rintro e w2 ⟨rfl, hb⟩
  have HB2 := Lib.hid (((Below.refl _ _).alloc (Nat.le_refl _) (.cells C 257)).trans (hb.mono (by simp)))
  clear hb
  go_wp2
  go_ret
  exact ⟨rfl, HB2.out⟩
set_option maxRecDepth 100000 in
set_option maxHeartbeats 4000000 in
theorem far_c (o d n m a c i pc : Int) (r : Rg) (w : World) :
    Calls Try.prog 209 #[.agg (coA #[.int .i64 o, .int .i64 d, .int .i64 n, .int .i64 m, .int .i64 a, .int .i64 c, .int .i64 i] pc r)] w fun e w' => e = .returned (.int .u64 (IntKind.u64.wrap (pc + IntKind.u64.wrap i))) ∧ Below w.heap.size w w' := by
  have H1 := fun w => Lib.hid (number_g o d n m a c i pc r w)
  have hc7 := coA_pc (i := #[.int .i64 o, .int .i64 d, .int .i64 n, .int .i64 m, .int .i64 a, .int .i64 c, .int .i64 i]) rfl pc r
  have HA := Lib.hid (coA_all (i := #[.int .i64 o, .int .i64 d, .int .i64 n, .int .i64 m, .int .i64 a, .int .i64 c, .int .i64 i]) rfl pc r)
  have HS := Lib.hid (coA_size (i := #[.int .i64 o, .int .i64 d, .int .i64 n, .int .i64 m, .int .i64 a, .int .i64 c, .int .i64 i]) rfl pc r)
  have HL := Lib.hid (fun w b => core_regs (w := w) (b := b) (i := #[.int .i64 o, .int .i64 d, .int .i64 n, .int .i64 m, .int .i64 a, .int .i64 c, .int .i64 i]) rfl (pc := pc) (r := r))
  have HM := Lib.hid (fun w b => core_all (w := w) (b := b) (i := #[.int .i64 o, .int .i64 d, .int .i64 n, .int .i64 m, .int .i64 a, .int .i64 c, .int .i64 i]) rfl (pc := pc) (r := r))
  generalize hC : coA #[.int .i64 o, .int .i64 d, .int .i64 n, .int .i64 m, .int .i64 a, .int .i64 c, .int .i64 i] pc r = C at *
  have HB := Lib.hid (rowAt_new w C 257)
  clear hC
  go_enter Try.func209, Try.ntmps209
  have hB := HB.out
  have k7 := (rowAt_cell hB 7).trans hc7
  have HBB : Hid (Below w.heap.size w (w.alloc (.cells C 257))) := Lib.hid ((Below.refl _ _).alloc (Nat.le_refl _) (.cells C 257))
  go_wp2_with fail
  obtain ⟨b, hb⟩ : ∃ b, b = w.heap.size := ⟨_, rfl⟩
  rw [← hb] at hB k7
  have HN := Lib.hid hb
  rw [← hb]
  clear hb HB
  have ha : ∀ w', rowAt w' b = some C → (ldAt 257 (.pointer (some ⟨b, 0, none⟩))).run Try.prog w' = .ok (.agg C) w' := fun w' h => HM.out w' b h
  have h7 : ∀ w', rowAt w' b = some C → w'.cell? ⟨b, 7, none⟩ = some (.int .u64 pc) := fun w' h => (rowAt_cell h 7).trans hc7
  generalize w.alloc (.cells C 257) = w1 at *
  go_region_held3 (fun w' => rowAt w' b = some C ∧ w'.cell? ⟨b, 7, none⟩ = some (.int .u64 pc)) (first | exact ⟨hB, k7⟩ | exact ⟨hB1, h7 _ hB1⟩) (first | (go_at_call 207; refine ((H1 _).out).mono ?_; rintro e w' ⟨rfl, hb1⟩; have hB1 : rowAt w' b = some C := rowAt_below hB hb1 rfl; have HB1 := Lib.hid (below_step HBB.out hb1 rfl rfl rfl rfl); clear hb1))
  all_goals
    go_wp2
    go_ret
    exact ⟨rfl, HB1.out⟩
end Go.Proofs.Ytnbpgoacooddjaa
