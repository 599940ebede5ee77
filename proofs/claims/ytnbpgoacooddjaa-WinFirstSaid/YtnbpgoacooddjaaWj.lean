import Derived.WalkKit
import Derived.ProofKit
import Derived.OpenShut
import Derived.Deep.QuietTactic
import Derived.BigQuiet
import Derived.Outline
import Derived.WalkSmall
import Derived.WalkLawsBesides
import Derived.WalkSpells
import Derived.BigGuardPart
import Derived.RegionTactic
import Derived.Deep.RegionHeld3
import Derived.Lib.Hide
import Derived.Deep.MidRow
import Derived.Below
import Derived.Deep.RegionWith
import Derived.Deep.OwnRows
import Derived.Deep.AppendLies
import Derived.Deep.RegionLaw
import Derived.Laws.BitsAllLaws
import Derived.Laws.BitsLemmas
import Derived.Deep.CutBlock
import Derived.Deep.DeepCutAuto
import Derived.Deep.CutRange
import Derived.Test.YtnbpgoacooddjaaWi
namespace Go.Proofs.Ytnbpgoacooddjaa
open Go.ChangeShapes Go.WideShapes Go.ChangeAt Go.RowKit
set_option linter.unusedVariables false
attribute [local go_sem ↓] ld29 st29 ld126
attribute [local go_sem] rowAt_drew rowAt_drewN
set_option maxRecDepth 100000 in
set_option maxHeartbeats 4000000 in
theorem good_c (o : Int) (w : World) : Calls Try.prog 157 #[.int .i64 o] w fun e w' => e = .returned (.bool (goodB o)) ∧ w' = w := by
  by_cases h35 : o = 35
  · subst h35
    go_enter Try.func157, Try.ntmps157
    go_wp2
    go_ret
    exact ⟨rfl, rfl⟩
  by_cases h40 : o = 40
  · subst h40
    go_enter Try.func157, Try.ntmps157
    go_wp2
    go_ret
    exact ⟨rfl, rfl⟩
  by_cases h41 : o = 41
  · subst h41
    go_enter Try.func157, Try.ntmps157
    go_wp2
    go_ret
    exact ⟨rfl, rfl⟩
  by_cases h42 : o = 42
  · subst h42
    go_enter Try.func157, Try.ntmps157
    go_wp2
    go_ret
    exact ⟨rfl, rfl⟩
  have e35 : (o == 35) = false := by simpa using h35
  have e40 : (o == 40) = false := by simpa using h40
  have e41 : (o == 41) = false := by simpa using h41
  have e42 : (o == 42) = false := by simpa using h42
  have HG : Hid (goodB o = storeB o) := Lib.hid (by unfold goodB; simp only [e35, e40, e41, e42]; rfl)
  clear h35 h40 h41 h42
  have HS := Lib.hid (store_c o)
  go_enter Try.func157, Try.ntmps157
  go_wp2_with (first | (go_at_call 155; refine (HS.out _).mono ?_; rintro e w' ⟨rfl, rfl⟩))
  go_ret
  exact ⟨by rw [HG.out]; rfl, rfl⟩
set_option maxRecDepth 100000 in
theorem branch_c (o : Int) (w : World) : Calls Try.prog 156 #[.int .i64 o] w fun e w' => e = .returned (.bool (branchB o)) ∧ w' = w := by
  by_cases h1 : 20 ≤ o
  · by_cases h2 : o ≤ 27
    · have HV : Hid (branchB o = true) := Lib.hid (by unfold branchB; simp [h1, h2])
      go_enter Try.func156, Try.ntmps156
      go_wp2
      go_ret
      exact ⟨by rw [HV.out]; rfl, rfl⟩
    · have HV : Hid (branchB o = false) := Lib.hid (by unfold branchB; simp [h2])
      have h3 : 27 < o := by omega
      go_enter Try.func156, Try.ntmps156
      go_wp2
      go_ret
      exact ⟨by rw [HV.out]; rfl, rfl⟩
  · have HV : Hid (branchB o = false) := Lib.hid (by unfold branchB; simp [h1])
    have h3 : o < 20 := by omega
    go_enter Try.func156, Try.ntmps156
    go_wp2
    go_ret
    exact ⟨by rw [HV.out]; rfl, rfl⟩
def ordB (ii o : Int) : Bool := if ii = 0 then memB o else if ii = 1 then loadB o else if ii = 2 then storeB o else false
set_option maxRecDepth 100000 in
theorem ordered_c (ii o : Int) (w : World) : Calls Try.prog 158 #[.int .i64 ii, .int .i64 o] w fun e w' => e = .returned (.bool (ordB ii o)) ∧ w' = w := by
  have HM := Lib.hid (memory_c o)
  have HD := Lib.hid (load_c o)
  have HS := Lib.hid (store_c o)
  by_cases h0 : ii = 0
  · subst h0
    go_enter Try.func158, Try.ntmps158
    go_wp2_with (first | (go_at_call 154; refine (HM.out _).mono ?_; rintro e w' ⟨rfl, rfl⟩))
    go_ret
    exact ⟨rfl, rfl⟩
  · have e0 : (ii == 0) = false := by simpa using h0
    by_cases h1 : ii = 1
    · subst h1
      go_enter Try.func158, Try.ntmps158
      go_wp2_with (first | (go_at_call 161; refine (HD.out _).mono ?_; rintro e w' ⟨rfl, rfl⟩))
      go_ret
      exact ⟨rfl, rfl⟩
    · have e1 : (ii == 1) = false := by simpa using h1
      by_cases h2 : ii = 2
      · subst h2
        go_enter Try.func158, Try.ntmps158
        go_wp2_with (first | (go_at_call 155; refine (HS.out _).mono ?_; rintro e w' ⟨rfl, rfl⟩))
        go_ret
        exact ⟨rfl, rfl⟩
      · have e2 : (ii == 2) = false := by simpa using h2
        have HV : Hid (ordB ii o = false) := Lib.hid (by unfold ordB; rw [if_neg h0, if_neg h1, if_neg h2])
        clear h0 h1 h2
        go_enter Try.func158, Try.ntmps158
        go_wp2
        go_ret
        exact ⟨by rw [HV.out]; rfl, rfl⟩
def kindL (oi oj ii : Int) : Bool := if oi = 34 then memB oj else if oi = 33 then oj == 34 else if oi = 35 ∨ oi = 36 then (oj == 35 || oj == 36) else if oi = 37 then ordB ii oj else if oi = 38 then tchs oj else if oi = 41 then oj == 38 else if oi = 39 ∨ oi = 42 ∨ oi = 0 then true else false
def kindB (oi oj ii : Int) : Bool := if memB oi = true ∧ oj = 33 then true else if branchB oj = true ∧ goodB oi = true then true else kindL oi oj ii
set_option maxRecDepth 100000 in
set_option maxHeartbeats 8000000 in
theorem kind_c (F : Nat → WI) (I : WI) (r : Rg) (b off n cap g m j : Nat) (tp : Option Int) (fw : Bool) (w : World) (HW : Hid (WnC w b off n F)) (hjn : j < n) (hn : n ≤ 1000000) :
    Calls Try.prog 75 #[.agg (trA (vwA b off n cap r g m) I tp fw), .int .i64 j] w fun e w' => e = .returned (.bool (kindB I.op (F j).op I.i)) ∧ Below w.heap.size w w' := by
  obtain ⟨TA, hTA⟩ : ∃ TA, TA = trA (vwA b off n cap r g m) I tp fw := ⟨_, rfl⟩
  rw [← hTA]
  have HTA := Lib.hid hTA
  clear hTA
  have hta0 : TA[0]? = some (.slice (some ⟨b, off, none⟩) n cap) := by rw [HTA.out]; exact trA_0 _ _ _ _ _ _ _ _ _ _
  have HTA0 := Lib.hid hta0
  clear hta0
  have HB : Hid (rowAt (w.alloc (.cells TA 136)) w.heap.size = some TA) := Lib.hid (rowAt_new _ _ _)
  have HL : Hid (Below w.heap.size w (w.alloc (.cells TA 136))) := Lib.hid ((Below.refl _ _).alloc (Nat.le_refl _) _)
  go_enter Try.func75, Try.ntmps75
  go_upto_region 1 with (fail)
  generalize (w.alloc (.cells TA 136)) = wU at HB HL ⊢
  go_cut [5, 6] from 7 to 15 (fun s5 s6 wx => ∃ b5 b6, s5 = .pointer (some ⟨b5, 0, none⟩) ∧ s6 = .pointer (some ⟨b6, 0, none⟩) ∧ rowAt wx b5 = some #[.int .i64 I.op, .int .i64 I.d, .int .i64 I.n, .int .i64 I.m, .int .i64 I.a, .int .i64 I.c, .int .i64 I.i] ∧ rowAt wx b6 = some #[.int .i64 (F j).op, .int .i64 (F j).d, .int .i64 (F j).n, .int .i64 (F j).m, .int .i64 (F j).a, .int .i64 (F j).c, .int .i64 (F j).i] ∧ rowAt wx w.heap.size = some TA ∧ Below w.heap.size w wx)
  case first =>
    have hT0 : rowAt wU.drew w.heap.size = some TA := HB.out
    have hL0 : Below w.heap.size w wU.drew := HL.out.drew
    have hW0 : WnC wU.drew b off n F := HW.out.below hL0
    have hc0 : wU.drew.cell? ⟨w.heap.size, 0, none⟩ = some (.slice (some ⟨b, off, none⟩) n cap) := (rowAt_cell hT0 0).trans HTA0.out
    have hlI : ∀ w', rowAt w' w.heap.size = some TA → (ldAt 29 (.pointer (some ⟨w.heap.size, 38, none⟩))).run Try.prog w' = .ok (.agg #[.int .i64 I.op, .int .i64 I.d, .int .i64 I.n, .int .i64 I.m, .int .i64 I.a, .int .i64 I.c, .int .i64 I.i]) w' := fun w' h => by rw [HTA.out] at h; exact tr_ins h
    have hlJ : ∀ w', WnC w' b off n F → (ldAt 29 (.pointer (some ⟨b, off + j * 46 + 1, none⟩))).run Try.prog w' = .ok (.agg #[.int .i64 (F j).op, .int .i64 (F j).d, .int .i64 (F j).n, .int .i64 (F j).m, .int .i64 (F j).a, .int .i64 (F j).c, .int .i64 (F j).i]) w' := fun w' h => h.loadIns j hjn
    have hlt := rowAt_lt hT0
    refine wp_region_held_drew (S := fun w' => w'.cell? ⟨w.heap.size, 0, none⟩ = some (.slice (some ⟨b, off, none⟩) n cap) ∧ rowAt w' w.heap.size = some TA ∧ WnC w' b off n F) (by kernel_rfl) ⟨hc0, hT0, hW0⟩ (fun hHeld => ?_)
    generalize wU.drew = V at hc0 hT0 hW0 hL0 hHeld hlt ⊢
    refine wpAnyH_take (i := 0) (oi := { dst := some 7, op := Go.Op.fieldAddr 136 (Go.Operand.tmp 2) 1, type := 0, pos := "may.go:75", after := #[], guard := none }) (v := ?_) rfl (by kernel_rfl) (by kernel_rfl) (by kernel_rfl) (fun _ _ _ h => h) (Or.inl ⟨by rfl, ?_⟩) (by assumption) ?_
    rotate_left
    · (intro w0 hSw; (try dsimp only at hSw); go_split_ands; go_simp; with_reducible rfl)
    try simp only [Act.put, List.setIfInBounds_toArray, List.set_cons_zero, List.set_cons_succ]
    refine wpAnyH_take (i := 1) (oi := { dst := some 8, op := Go.Op.load 29 (Go.Operand.tmp 7), type := 29, pos := "may.go:75", after := #[{ on := 0, ground := Go.Ground.data }], guard := none }) (v := ?_) rfl (by kernel_rfl) (by kernel_rfl) (by kernel_rfl) (fun _ _ _ h => h) (Or.inl ⟨by rfl, ?_⟩) (by assumption) ?_
    rotate_left
    · (intro w0 hSw; (try dsimp only at hSw); go_split_ands; go_simp; with_reducible rfl)
    try simp only [Act.put, List.setIfInBounds_toArray, List.set_cons_zero, List.set_cons_succ]
    refine wpAnyH_take (i := 2) (oi := { dst := some 9, op := Go.Op.fieldAddr 136 (Go.Operand.tmp 2) 0, type := 0, pos := "may.go:75", after := #[{ on := 11, ground := Go.Ground.gcOnly Go.Departure.lateStores }], guard := none }) (v := ?_) rfl (by kernel_rfl) (by kernel_rfl) (by kernel_rfl) (fun _ _ _ h => h) (Or.inl ⟨by rfl, ?_⟩) (by assumption) ?_
    rotate_left
    · (intro w0 hSw; (try dsimp only at hSw); go_split_ands; go_simp; with_reducible rfl)
    try simp only [Act.put, List.setIfInBounds_toArray, List.set_cons_zero, List.set_cons_succ]
    refine wpAnyH_take (i := 3) (oi := { dst := some 10, op := Go.Op.fieldAddr 126 (Go.Operand.tmp 9) 0, type := 0, pos := "may.go:75", after := #[{ on := 2, ground := Go.Ground.data }, { on := 11, ground := Go.Ground.gcOnly Go.Departure.lateStores }], guard := none }) (v := ?_) rfl (by kernel_rfl) (by kernel_rfl) (by kernel_rfl) (fun _ _ _ h => h) (Or.inl ⟨by rfl, ?_⟩) (by assumption) ?_
    rotate_left
    · (intro w0 hSw; (try dsimp only at hSw); go_split_ands; go_simp; with_reducible rfl)
    try simp only [Act.put, List.setIfInBounds_toArray, List.set_cons_zero, List.set_cons_succ]
    refine wpAnyH_take (i := 4) (oi := { dst := some 11, op := Go.Op.load 22 (Go.Operand.tmp 10), type := 22, pos := "may.go:75", after := #[{ on := 3, ground := Go.Ground.data }, { on := 11, ground := Go.Ground.gcOnly Go.Departure.lateStores }], guard := none }) (v := ?_) rfl (by kernel_rfl) (by kernel_rfl) (by kernel_rfl) (fun _ _ _ h => h) (Or.inl ⟨by rfl, ?_⟩) (by assumption) ?_
    rotate_left
    · (intro w0 hSw; (try dsimp only at hSw); go_split_ands; go_simp; with_reducible rfl)
    try simp only [Act.put, List.setIfInBounds_toArray, List.set_cons_zero, List.set_cons_succ]
    refine wpAnyH_take (i := 5) (oi := { dst := some 12, op := Go.Op.move (Go.Operand.tmp 1), type := 3, pos := "may.go:75", after := #[{ on := 11, ground := Go.Ground.gcOnly Go.Departure.lateStores }], guard := none }) (v := ?_) rfl (by kernel_rfl) (by kernel_rfl) (by kernel_rfl) (fun _ _ _ h => h) (Or.inl ⟨by rfl, ?_⟩) (by assumption) ?_
    rotate_left
    · (intro w0 hSw; (try dsimp only at hSw); go_split_ands; go_simp; with_reducible rfl)
    try simp only [Act.put, List.setIfInBounds_toArray, List.set_cons_zero, List.set_cons_succ]
    refine wpAnyH_take (i := 6) (oi := { dst := some 13, op := Go.Op.indexAddr 22 (Go.Operand.tmp 11) (Go.Operand.tmp 12), type := 0, pos := "may.go:75", after := #[{ on := 4, ground := Go.Ground.data }, { on := 5, ground := Go.Ground.data }, { on := 11, ground := Go.Ground.gcOnly Go.Departure.lateStores }], guard := none }) (v := ?_) rfl (by kernel_rfl) (by kernel_rfl) (by kernel_rfl) (fun _ _ _ h => h) (Or.inl ⟨by rfl, ?_⟩) (by assumption) ?_
    rotate_left
    · (intro w0 hSw; (try dsimp only at hSw); go_split_ands; go_simp; with_reducible rfl)
    try simp only [Act.put, List.setIfInBounds_toArray, List.set_cons_zero, List.set_cons_succ]
    refine wpAnyH_take (i := 7) (oi := { dst := some 14, op := Go.Op.fieldAddr 31 (Go.Operand.tmp 13) 1, type := 0, pos := "may.go:75", after := #[{ on := 6, ground := Go.Ground.data }, { on := 11, ground := Go.Ground.gcOnly Go.Departure.lateStores }], guard := none }) (v := ?_) rfl (by kernel_rfl) (by kernel_rfl) (by kernel_rfl) (fun _ _ _ h => h) (Or.inl ⟨by rfl, ?_⟩) (by assumption) ?_
    rotate_left
    · (intro w0 hSw; (try dsimp only at hSw); go_split_ands; go_simp; with_reducible rfl)
    try simp only [Act.put, List.setIfInBounds_toArray, List.set_cons_zero, List.set_cons_succ]
    refine wpAnyH_take (i := 8) (oi := { dst := some 15, op := Go.Op.load 29 (Go.Operand.tmp 14), type := 29, pos := "may.go:75", after := #[{ on := 7, ground := Go.Ground.data }, { on := 11, ground := Go.Ground.gcOnly Go.Departure.lateStores }], guard := none }) (v := ?_) rfl (by kernel_rfl) (by kernel_rfl) (by kernel_rfl) (fun _ _ _ h => h) (Or.inl ⟨by rfl, ?_⟩) (by assumption) ?_
    rotate_left
    · (intro w0 hSw; (try dsimp only at hSw); go_split_ands; go_simp; with_reducible rfl)
    try simp only [Act.put, List.setIfInBounds_toArray, List.set_cons_zero, List.set_cons_succ]
    refine wpAnyH_ready (rs := [9, 10]) (by kernel_rfl) (by simp) ?_
    refine AllReadyH.cons (o := { dst := some 5, op := Go.Op.alloc 29, type := 0, pos := "may.go:75", after := #[], guard := none }) rfl (fun K hK => ?_) ?_
    · go_simp
      have hy1 : rowAt (V.alloc (.cells #[.int .i64 0, .int .i64 0, .int .i64 0, .int .i64 0, .int .i64 0, .int .i64 0, .int .i64 0] 29)) V.heap.size = some #[.int .i64 0, .int .i64 0, .int .i64 0, .int .i64 0, .int .i64 0, .int .i64 0, .int .i64 0] := rowAt_new _ _ _
      have hT1 := rowAt_past hT0 (.cells #[.int .i64 0, .int .i64 0, .int .i64 0, .int .i64 0, .int .i64 0, .int .i64 0, .int .i64 0] 29)
      have hW1 := hW0.below ((Below.refl V.heap.size V).alloc (Nat.le_refl _) (.cells #[.int .i64 0, .int .i64 0, .int .i64 0, .int .i64 0, .int .i64 0, .int .i64 0, .int .i64 0] 29))
      have hL1 := hL0.alloc hL0.size (.cells #[.int .i64 0, .int .i64 0, .int .i64 0, .int .i64 0, .int .i64 0, .int .i64 0, .int .i64 0] 29)
      have hc1 : (V.alloc (.cells #[.int .i64 0, .int .i64 0, .int .i64 0, .int .i64 0, .int .i64 0, .int .i64 0, .int .i64 0] 29)).cell? ⟨w.heap.size, 0, none⟩ = some (.slice (some ⟨b, off, none⟩) n cap) := (rowAt_cell hT1 0).trans HTA0.out
      refine hK.out _ _ ⟨hc1, hT1, hW1⟩ (fun hHeld => ?_)
      clear hK K
      try simp only [Act.put, List.setIfInBounds_toArray, List.set_cons_zero, List.set_cons_succ]
      refine wpAnyH_ready (rs := [10]) (by kernel_rfl) (by simp) ?_
      refine AllReadyH.cons (o := { dst := some 6, op := Go.Op.alloc 29, type := 0, pos := "may.go:75", after := #[], guard := none }) rfl (fun K hK => ?_) AllReadyH.nil
      go_simp
      have hsz : (V.alloc (.cells #[.int .i64 0, .int .i64 0, .int .i64 0, .int .i64 0, .int .i64 0, .int .i64 0, .int .i64 0] 29)).heap.size = V.heap.size + 1 := by simp
      have hy2 : rowAt ((V.alloc (.cells #[.int .i64 0, .int .i64 0, .int .i64 0, .int .i64 0, .int .i64 0, .int .i64 0, .int .i64 0] 29)).alloc (.cells #[.int .i64 0, .int .i64 0, .int .i64 0, .int .i64 0, .int .i64 0, .int .i64 0, .int .i64 0] 29)) (V.alloc (.cells #[.int .i64 0, .int .i64 0, .int .i64 0, .int .i64 0, .int .i64 0, .int .i64 0, .int .i64 0] 29)).heap.size = some #[.int .i64 0, .int .i64 0, .int .i64 0, .int .i64 0, .int .i64 0, .int .i64 0, .int .i64 0] := rowAt_new _ _ _
      rw [hsz] at hy2
      replace hy1 := rowAt_past hy1 (.cells #[.int .i64 0, .int .i64 0, .int .i64 0, .int .i64 0, .int .i64 0, .int .i64 0, .int .i64 0] 29)
      replace hT1 := rowAt_past hT1 (.cells #[.int .i64 0, .int .i64 0, .int .i64 0, .int .i64 0, .int .i64 0, .int .i64 0, .int .i64 0] 29)
      replace hW1 := hW1.below ((Below.refl _ (V.alloc (.cells #[.int .i64 0, .int .i64 0, .int .i64 0, .int .i64 0, .int .i64 0, .int .i64 0, .int .i64 0] 29))).alloc (Nat.le_refl _) (.cells #[.int .i64 0, .int .i64 0, .int .i64 0, .int .i64 0, .int .i64 0, .int .i64 0, .int .i64 0] 29))
      replace hL1 := hL1.alloc hL1.size (.cells #[.int .i64 0, .int .i64 0, .int .i64 0, .int .i64 0, .int .i64 0, .int .i64 0, .int .i64 0] 29)
      have hc2 : ((V.alloc (.cells #[.int .i64 0, .int .i64 0, .int .i64 0, .int .i64 0, .int .i64 0, .int .i64 0, .int .i64 0] 29)).alloc (.cells #[.int .i64 0, .int .i64 0, .int .i64 0, .int .i64 0, .int .i64 0, .int .i64 0, .int .i64 0] 29)).cell? ⟨w.heap.size, 0, none⟩ = some (.slice (some ⟨b, off, none⟩) n cap) := (rowAt_cell hT1 0).trans HTA0.out
      refine hK.out _ _ ⟨hc2, hT1, hW1⟩ (fun hHeld => ?_)
      clear hK K
      try simp only [Act.put, List.setIfInBounds_toArray, List.set_cons_zero, List.set_cons_succ]
      refine wpAnyH_ready (rs := [11]) (by kernel_rfl) (by simp) ?_
      refine AllReadyH.cons (o := { dst := none, op := Go.Op.store 29 (Go.Operand.tmp 5) (Go.Operand.tmp 8), type := 0, pos := "may.go:75", after := #[{ on := 9, ground := Go.Ground.data }, { on := 1, ground := Go.Ground.data }, { on := 0, ground := Go.Ground.phase }, { on := 1, ground := Go.Ground.phase }, { on := 2, ground := Go.Ground.textOnly Go.Departure.lateStores }, { on := 3, ground := Go.Ground.textOnly Go.Departure.lateStores }, { on := 4, ground := Go.Ground.textOnly Go.Departure.lateStores }, { on := 5, ground := Go.Ground.textOnly Go.Departure.lateStores }, { on := 6, ground := Go.Ground.textOnly Go.Departure.lateStores }, { on := 7, ground := Go.Ground.textOnly Go.Departure.lateStores }, { on := 8, ground := Go.Ground.textOnly Go.Departure.lateStores }, { on := 9, ground := Go.Ground.phase }, { on := 10, ground := Go.Ground.phase }], guard := none }) rfl (fun K hK => ?_) AllReadyH.nil
      have hs := st_ins (w := ((V.alloc (.cells #[.int .i64 0, .int .i64 0, .int .i64 0, .int .i64 0, .int .i64 0, .int .i64 0, .int .i64 0] 29)).alloc (.cells #[.int .i64 0, .int .i64 0, .int .i64 0, .int .i64 0, .int .i64 0, .int .i64 0, .int .i64 0] 29))) (x := V.heap.size) (C := #[.int .i64 0, .int .i64 0, .int .i64 0, .int .i64 0, .int .i64 0, .int .i64 0, .int .i64 0]) (D := #[.int .i64 I.op, .int .i64 I.d, .int .i64 I.n, .int .i64 I.m, .int .i64 I.a, .int .i64 I.c, .int .i64 I.i]) hy1 rfl rfl (by simp [Value.oneCell'])
      go_simp
      have hR5 := setCells_all (D := #[.int .i64 I.op, .int .i64 I.d, .int .i64 I.n, .int .i64 I.m, .int .i64 I.a, .int .i64 I.c, .int .i64 I.i]) hy1 rfl
      have hg5 := setCells_grown (#[.int .i64 I.op, .int .i64 I.d, .int .i64 I.n, .int .i64 I.m, .int .i64 I.a, .int .i64 I.c, .int .i64 I.i] : Array Value).toList 0 ((V.alloc (.cells #[.int .i64 0, .int .i64 0, .int .i64 0, .int .i64 0, .int .i64 0, .int .i64 0, .int .i64 0] 29)).alloc (.cells #[.int .i64 0, .int .i64 0, .int .i64 0, .int .i64 0, .int .i64 0, .int .i64 0, .int .i64 0] 29)) (V.heap.size)
      have hR6 := rowAt_grown hy2 hg5 (by omega)
      have hT5 := rowAt_grown hT1 hg5 (by omega)
      have hL5 := grown_below hL1 hg5 (by omega)
      have hW5 : WnC _ b off n F := HW.out.below hL5
      refine hK.out _ _ ⟨(rowAt_cell hT5 0).trans HTA0.out, hT5, hW5⟩ (fun hHeld => ?_)
      clear hK K
      try simp only [Act.put, List.setIfInBounds_toArray, List.set_cons_zero, List.set_cons_succ]
      clear hs
      refine wpAnyH_ready (rs := [12]) (by kernel_rfl) (by simp) ?_
      refine AllReadyH.cons (o := { dst := none, op := Go.Op.store 29 (Go.Operand.tmp 6) (Go.Operand.tmp 15), type := 0, pos := "may.go:75", after := #[{ on := 10, ground := Go.Ground.data }, { on := 8, ground := Go.Ground.data }, { on := 11, ground := Go.Ground.chain }, { on := 0, ground := Go.Ground.phase }, { on := 1, ground := Go.Ground.phase }, { on := 2, ground := Go.Ground.phase }, { on := 3, ground := Go.Ground.phase }, { on := 4, ground := Go.Ground.phase }, { on := 5, ground := Go.Ground.phase }, { on := 6, ground := Go.Ground.phase }, { on := 7, ground := Go.Ground.phase }, { on := 8, ground := Go.Ground.phase }, { on := 9, ground := Go.Ground.phase }, { on := 10, ground := Go.Ground.phase }, { on := 11, ground := Go.Ground.phase }], guard := none }) rfl (fun K hK => ?_) AllReadyH.nil
      have hs := st_ins (x := V.heap.size + 1) (C := #[.int .i64 0, .int .i64 0, .int .i64 0, .int .i64 0, .int .i64 0, .int .i64 0, .int .i64 0]) (D := #[.int .i64 (F j).op, .int .i64 (F j).d, .int .i64 (F j).n, .int .i64 (F j).m, .int .i64 (F j).a, .int .i64 (F j).c, .int .i64 (F j).i]) hR6 rfl rfl (by simp [Value.oneCell'])
      go_simp
      have hR6' := setCells_all (D := #[.int .i64 (F j).op, .int .i64 (F j).d, .int .i64 (F j).n, .int .i64 (F j).m, .int .i64 (F j).a, .int .i64 (F j).c, .int .i64 (F j).i]) hR6 rfl
      have hg6 := setCells_grown (#[.int .i64 (F j).op, .int .i64 (F j).d, .int .i64 (F j).n, .int .i64 (F j).m, .int .i64 (F j).a, .int .i64 (F j).c, .int .i64 (F j).i] : Array Value).toList 0 (((V.alloc (.cells #[.int .i64 0, .int .i64 0, .int .i64 0, .int .i64 0, .int .i64 0, .int .i64 0, .int .i64 0] 29)).alloc (.cells #[.int .i64 0, .int .i64 0, .int .i64 0, .int .i64 0, .int .i64 0, .int .i64 0, .int .i64 0] 29)).setCells (V.heap.size) 0 (#[.int .i64 I.op, .int .i64 I.d, .int .i64 I.n, .int .i64 I.m, .int .i64 I.a, .int .i64 I.c, .int .i64 I.i] : Array Value).toList) (V.heap.size + 1)
      have hR5' := rowAt_grown hR5 hg6 (by omega)
      have hT6 := rowAt_grown hT5 hg6 (by omega)
      have hL6 := grown_below hL5 hg6 (by omega)
      have hW6 : WnC _ b off n F := HW.out.below hL6
      refine hK.out _ _ ⟨(rowAt_cell hT6 0).trans HTA0.out, hT6, hW6⟩ (fun hHeld => ?_)
      clear hK K
      try simp only [Act.put, List.setIfInBounds_toArray, List.set_cons_zero, List.set_cons_succ]
      refine wpAnyH_done (by kernel_rfl) ?_ _
      clear hHeld
      go_wp2_with fail
      go_meet
      case rel => exact ⟨V.heap.size, V.heap.size + 1, rfl, rfl, hR5', hR6', hT6, hL6⟩
    · refine AllReadyH.cons (o := { dst := some 6, op := Go.Op.alloc 29, type := 0, pos := "may.go:75", after := #[], guard := none }) rfl (fun K hK => ?_) AllReadyH.nil
      go_simp
      have hy1 : rowAt (V.alloc (.cells #[.int .i64 0, .int .i64 0, .int .i64 0, .int .i64 0, .int .i64 0, .int .i64 0, .int .i64 0] 29)) V.heap.size = some #[.int .i64 0, .int .i64 0, .int .i64 0, .int .i64 0, .int .i64 0, .int .i64 0, .int .i64 0] := rowAt_new _ _ _
      have hT1 := rowAt_past hT0 (.cells #[.int .i64 0, .int .i64 0, .int .i64 0, .int .i64 0, .int .i64 0, .int .i64 0, .int .i64 0] 29)
      have hW1 := hW0.below ((Below.refl V.heap.size V).alloc (Nat.le_refl _) (.cells #[.int .i64 0, .int .i64 0, .int .i64 0, .int .i64 0, .int .i64 0, .int .i64 0, .int .i64 0] 29))
      have hL1 := hL0.alloc hL0.size (.cells #[.int .i64 0, .int .i64 0, .int .i64 0, .int .i64 0, .int .i64 0, .int .i64 0, .int .i64 0] 29)
      have hc1 : (V.alloc (.cells #[.int .i64 0, .int .i64 0, .int .i64 0, .int .i64 0, .int .i64 0, .int .i64 0, .int .i64 0] 29)).cell? ⟨w.heap.size, 0, none⟩ = some (.slice (some ⟨b, off, none⟩) n cap) := (rowAt_cell hT1 0).trans HTA0.out
      refine hK.out _ _ ⟨hc1, hT1, hW1⟩ (fun hHeld => ?_)
      clear hK K
      try simp only [Act.put, List.setIfInBounds_toArray, List.set_cons_zero, List.set_cons_succ]
      refine wpAnyH_ready (rs := [9]) (by kernel_rfl) (by simp) ?_
      refine AllReadyH.cons (o := { dst := some 5, op := Go.Op.alloc 29, type := 0, pos := "may.go:75", after := #[], guard := none }) rfl (fun K hK => ?_) AllReadyH.nil
      go_simp
      have hsz : (V.alloc (.cells #[.int .i64 0, .int .i64 0, .int .i64 0, .int .i64 0, .int .i64 0, .int .i64 0, .int .i64 0] 29)).heap.size = V.heap.size + 1 := by simp
      have hy2 : rowAt ((V.alloc (.cells #[.int .i64 0, .int .i64 0, .int .i64 0, .int .i64 0, .int .i64 0, .int .i64 0, .int .i64 0] 29)).alloc (.cells #[.int .i64 0, .int .i64 0, .int .i64 0, .int .i64 0, .int .i64 0, .int .i64 0, .int .i64 0] 29)) (V.alloc (.cells #[.int .i64 0, .int .i64 0, .int .i64 0, .int .i64 0, .int .i64 0, .int .i64 0, .int .i64 0] 29)).heap.size = some #[.int .i64 0, .int .i64 0, .int .i64 0, .int .i64 0, .int .i64 0, .int .i64 0, .int .i64 0] := rowAt_new _ _ _
      rw [hsz] at hy2
      replace hy1 := rowAt_past hy1 (.cells #[.int .i64 0, .int .i64 0, .int .i64 0, .int .i64 0, .int .i64 0, .int .i64 0, .int .i64 0] 29)
      replace hT1 := rowAt_past hT1 (.cells #[.int .i64 0, .int .i64 0, .int .i64 0, .int .i64 0, .int .i64 0, .int .i64 0, .int .i64 0] 29)
      replace hW1 := hW1.below ((Below.refl _ (V.alloc (.cells #[.int .i64 0, .int .i64 0, .int .i64 0, .int .i64 0, .int .i64 0, .int .i64 0, .int .i64 0] 29))).alloc (Nat.le_refl _) (.cells #[.int .i64 0, .int .i64 0, .int .i64 0, .int .i64 0, .int .i64 0, .int .i64 0, .int .i64 0] 29))
      replace hL1 := hL1.alloc hL1.size (.cells #[.int .i64 0, .int .i64 0, .int .i64 0, .int .i64 0, .int .i64 0, .int .i64 0, .int .i64 0] 29)
      have hc2 : ((V.alloc (.cells #[.int .i64 0, .int .i64 0, .int .i64 0, .int .i64 0, .int .i64 0, .int .i64 0, .int .i64 0] 29)).alloc (.cells #[.int .i64 0, .int .i64 0, .int .i64 0, .int .i64 0, .int .i64 0, .int .i64 0, .int .i64 0] 29)).cell? ⟨w.heap.size, 0, none⟩ = some (.slice (some ⟨b, off, none⟩) n cap) := (rowAt_cell hT1 0).trans HTA0.out
      refine hK.out _ _ ⟨hc2, hT1, hW1⟩ (fun hHeld => ?_)
      clear hK K
      try simp only [Act.put, List.setIfInBounds_toArray, List.set_cons_zero, List.set_cons_succ]
      refine wpAnyH_ready (rs := [11]) (by kernel_rfl) (by simp) ?_
      refine AllReadyH.cons (o := { dst := none, op := Go.Op.store 29 (Go.Operand.tmp 5) (Go.Operand.tmp 8), type := 0, pos := "may.go:75", after := #[{ on := 9, ground := Go.Ground.data }, { on := 1, ground := Go.Ground.data }, { on := 0, ground := Go.Ground.phase }, { on := 1, ground := Go.Ground.phase }, { on := 2, ground := Go.Ground.textOnly Go.Departure.lateStores }, { on := 3, ground := Go.Ground.textOnly Go.Departure.lateStores }, { on := 4, ground := Go.Ground.textOnly Go.Departure.lateStores }, { on := 5, ground := Go.Ground.textOnly Go.Departure.lateStores }, { on := 6, ground := Go.Ground.textOnly Go.Departure.lateStores }, { on := 7, ground := Go.Ground.textOnly Go.Departure.lateStores }, { on := 8, ground := Go.Ground.textOnly Go.Departure.lateStores }, { on := 9, ground := Go.Ground.phase }, { on := 10, ground := Go.Ground.phase }], guard := none }) rfl (fun K hK => ?_) AllReadyH.nil
      have hs := st_ins (w := ((V.alloc (.cells #[.int .i64 0, .int .i64 0, .int .i64 0, .int .i64 0, .int .i64 0, .int .i64 0, .int .i64 0] 29)).alloc (.cells #[.int .i64 0, .int .i64 0, .int .i64 0, .int .i64 0, .int .i64 0, .int .i64 0, .int .i64 0] 29))) (x := V.heap.size + 1) (C := #[.int .i64 0, .int .i64 0, .int .i64 0, .int .i64 0, .int .i64 0, .int .i64 0, .int .i64 0]) (D := #[.int .i64 I.op, .int .i64 I.d, .int .i64 I.n, .int .i64 I.m, .int .i64 I.a, .int .i64 I.c, .int .i64 I.i]) hy2 rfl rfl (by simp [Value.oneCell'])
      go_simp
      have hR5 := setCells_all (D := #[.int .i64 I.op, .int .i64 I.d, .int .i64 I.n, .int .i64 I.m, .int .i64 I.a, .int .i64 I.c, .int .i64 I.i]) hy2 rfl
      have hg5 := setCells_grown (#[.int .i64 I.op, .int .i64 I.d, .int .i64 I.n, .int .i64 I.m, .int .i64 I.a, .int .i64 I.c, .int .i64 I.i] : Array Value).toList 0 ((V.alloc (.cells #[.int .i64 0, .int .i64 0, .int .i64 0, .int .i64 0, .int .i64 0, .int .i64 0, .int .i64 0] 29)).alloc (.cells #[.int .i64 0, .int .i64 0, .int .i64 0, .int .i64 0, .int .i64 0, .int .i64 0, .int .i64 0] 29)) (V.heap.size + 1)
      have hR6 := rowAt_grown hy1 hg5 (by omega)
      have hT5 := rowAt_grown hT1 hg5 (by omega)
      have hL5 := grown_below hL1 hg5 (by omega)
      have hW5 : WnC _ b off n F := HW.out.below hL5
      refine hK.out _ _ ⟨(rowAt_cell hT5 0).trans HTA0.out, hT5, hW5⟩ (fun hHeld => ?_)
      clear hK K
      try simp only [Act.put, List.setIfInBounds_toArray, List.set_cons_zero, List.set_cons_succ]
      clear hs
      refine wpAnyH_ready (rs := [12]) (by kernel_rfl) (by simp) ?_
      refine AllReadyH.cons (o := { dst := none, op := Go.Op.store 29 (Go.Operand.tmp 6) (Go.Operand.tmp 15), type := 0, pos := "may.go:75", after := #[{ on := 10, ground := Go.Ground.data }, { on := 8, ground := Go.Ground.data }, { on := 11, ground := Go.Ground.chain }, { on := 0, ground := Go.Ground.phase }, { on := 1, ground := Go.Ground.phase }, { on := 2, ground := Go.Ground.phase }, { on := 3, ground := Go.Ground.phase }, { on := 4, ground := Go.Ground.phase }, { on := 5, ground := Go.Ground.phase }, { on := 6, ground := Go.Ground.phase }, { on := 7, ground := Go.Ground.phase }, { on := 8, ground := Go.Ground.phase }, { on := 9, ground := Go.Ground.phase }, { on := 10, ground := Go.Ground.phase }, { on := 11, ground := Go.Ground.phase }], guard := none }) rfl (fun K hK => ?_) AllReadyH.nil
      have hs := st_ins (x := V.heap.size) (C := #[.int .i64 0, .int .i64 0, .int .i64 0, .int .i64 0, .int .i64 0, .int .i64 0, .int .i64 0]) (D := #[.int .i64 (F j).op, .int .i64 (F j).d, .int .i64 (F j).n, .int .i64 (F j).m, .int .i64 (F j).a, .int .i64 (F j).c, .int .i64 (F j).i]) hR6 rfl rfl (by simp [Value.oneCell'])
      go_simp
      have hR6' := setCells_all (D := #[.int .i64 (F j).op, .int .i64 (F j).d, .int .i64 (F j).n, .int .i64 (F j).m, .int .i64 (F j).a, .int .i64 (F j).c, .int .i64 (F j).i]) hR6 rfl
      have hg6 := setCells_grown (#[.int .i64 (F j).op, .int .i64 (F j).d, .int .i64 (F j).n, .int .i64 (F j).m, .int .i64 (F j).a, .int .i64 (F j).c, .int .i64 (F j).i] : Array Value).toList 0 (((V.alloc (.cells #[.int .i64 0, .int .i64 0, .int .i64 0, .int .i64 0, .int .i64 0, .int .i64 0, .int .i64 0] 29)).alloc (.cells #[.int .i64 0, .int .i64 0, .int .i64 0, .int .i64 0, .int .i64 0, .int .i64 0, .int .i64 0] 29)).setCells (V.heap.size + 1) 0 (#[.int .i64 I.op, .int .i64 I.d, .int .i64 I.n, .int .i64 I.m, .int .i64 I.a, .int .i64 I.c, .int .i64 I.i] : Array Value).toList) (V.heap.size)
      have hR5' := rowAt_grown hR5 hg6 (by omega)
      have hT6 := rowAt_grown hT5 hg6 (by omega)
      have hL6 := grown_below hL5 hg6 (by omega)
      have hW6 : WnC _ b off n F := HW.out.below hL6
      refine hK.out _ _ ⟨(rowAt_cell hT6 0).trans HTA0.out, hT6, hW6⟩ (fun hHeld => ?_)
      clear hK K
      try simp only [Act.put, List.setIfInBounds_toArray, List.set_cons_zero, List.set_cons_succ]
      refine wpAnyH_done (by kernel_rfl) ?_ _
      clear hHeld
      go_wp2_with fail
      go_meet
      case rel => exact ⟨V.heap.size + 1, V.heap.size, rfl, rfl, hR5', hR6', hT6, hL6⟩
  case rest =>
    obtain ⟨b5, b6, hs5, hs6, hR5, hR6, hT6, hL6⟩ := hcut
    subst hs5
    subst hs6
    have HL6 := Lib.hid hL6
    have HR5 := Lib.hid hR5
    have HR6 := Lib.hid hR6
    have q5 : wc.cell? ⟨b5, 0, none⟩ = some _ := rowAt_cell hR5 0
    have q6 : wc.cell? ⟨b6, 0, none⟩ = some _ := rowAt_cell hR6 0
    have p5 : wc.cell? ⟨b5, 6, none⟩ = some _ := rowAt_cell hR5 6
    have p6 : wc.cell? ⟨b6, 6, none⟩ = some _ := rowAt_cell hR6 6
    clear hL6 hR5 hR6 hT6 HB HL HW HTA HTA0
    have HM := Lib.hid (memory_c I.op)
    have HMj := Lib.hid (memory_c (F j).op)
    have HBR := Lib.hid (branch_c (F j).op)
    have HGD := Lib.hid (good_c I.op)
    have HOR := Lib.hid (ordered_c I.i (F j).op)
    have HTC := Lib.hid (touches_c (F j).op)
    have k1 : (memB I.op = true ∧ (F j).op = 33) ∨ (memB I.op = false ∧ ¬ (memB I.op = true ∧ (F j).op = 33)) ∨ (memB I.op = true ∧ ((F j).op == 33) = false ∧ ¬ (memB I.op = true ∧ (F j).op = 33)) := by
      cases hm : memB I.op
      · exact .inr (.inl ⟨rfl, fun h => by cases h.1⟩)
      · by_cases h3 : (F j).op = 33
        · exact .inl ⟨rfl, h3⟩
        · exact .inr (.inr ⟨rfl, by simpa using h3, fun h => h3 h.2⟩)
    have k2 : (branchB (F j).op = true ∧ goodB I.op = true) ∨ (branchB (F j).op = false ∧ ¬ (branchB (F j).op = true ∧ goodB I.op = true)) ∨ (branchB (F j).op = true ∧ goodB I.op = false ∧ ¬ (branchB (F j).op = true ∧ goodB I.op = true)) := by
      cases hm : branchB (F j).op
      · exact .inr (.inl ⟨rfl, fun h => by cases h.1⟩)
      · cases hg : goodB I.op
        · exact .inr (.inr ⟨rfl, rfl, fun h => by cases h.2⟩)
        · exact .inl ⟨rfl, rfl⟩
    rcases k1 with ⟨k1, h33⟩ | k1
    · have e33 : ((F j).op == 33) = true := by simpa using h33
      rw [k1] at HM
      have HV : Hid (kindB I.op (F j).op I.i = true) := Lib.hid (by unfold kindB; rw [if_pos ⟨k1, h33⟩])
      go_wp2_with (first | (go_at_call 154; (with_reducible refine (HM.out _).mono ?_); rintro e w' ⟨rfl, rfl⟩) | (go_at_call 154; (with_reducible refine (HMj.out _).mono ?_); rintro e w' ⟨rfl, rfl⟩) | (go_at_call 156; refine (HBR.out _).mono ?_; rintro e w' ⟨rfl, rfl⟩) | (go_at_call 157; refine (HGD.out _).mono ?_; rintro e w' ⟨rfl, rfl⟩) | (go_at_call 158; refine (HOR.out _).mono ?_; rintro e w' ⟨rfl, rfl⟩) | (go_at_call 159; refine (HTC.out _).mono ?_; rintro e w' ⟨rfl, rfl⟩))
      go_ret
      exact ⟨by rw [HV.out]; rfl, HL6.out⟩
    · have HN1 : Hid (¬ (memB I.op = true ∧ (F j).op = 33)) := Lib.hid (by rcases k1 with ⟨_, h⟩ | ⟨_, _, h⟩ <;> exact h)
      rcases k2 with ⟨k2, k3⟩ | k2
      · rw [k2] at HBR
        rw [k3] at HGD
        have HV : Hid (kindB I.op (F j).op I.i = true) := Lib.hid (by unfold kindB; rw [if_neg HN1.out, if_pos ⟨k2, k3⟩])
        clear k2 k3
        rcases k1 with ⟨k1, _⟩ | ⟨k1, e33, _⟩
        all_goals
          rw [k1] at HM
          clear k1
          go_wp2_with (first | (go_at_call 154; (with_reducible refine (HM.out _).mono ?_); rintro e w' ⟨rfl, rfl⟩) | (go_at_call 154; (with_reducible refine (HMj.out _).mono ?_); rintro e w' ⟨rfl, rfl⟩) | (go_at_call 156; refine (HBR.out _).mono ?_; rintro e w' ⟨rfl, rfl⟩) | (go_at_call 157; refine (HGD.out _).mono ?_; rintro e w' ⟨rfl, rfl⟩) | (go_at_call 158; refine (HOR.out _).mono ?_; rintro e w' ⟨rfl, rfl⟩) | (go_at_call 159; refine (HTC.out _).mono ?_; rintro e w' ⟨rfl, rfl⟩))
          go_ret
          exact ⟨by rw [HV.out]; rfl, HL6.out⟩
      · have HN2 : Hid (¬ (branchB (F j).op = true ∧ goodB I.op = true)) := Lib.hid (by rcases k2 with ⟨_, h⟩ | ⟨_, _, h⟩ <;> exact h)
        have HK : Hid (kindB I.op (F j).op I.i = kindL I.op (F j).op I.i) := Lib.hid (by unfold kindB; rw [if_neg HN1.out, if_neg HN2.out])
        rcases k1 with ⟨k1, _⟩ | ⟨k1, e33, _⟩ <;> rcases k2 with ⟨k2, _⟩ | ⟨k2, k3, _⟩ <;> rw [k1] at HM <;> rw [k2] at HBR
        rotate_left 1
        · rw [k3] at HGD
          clear k1 k2 k3
          by_cases i34 : I.op = 34
          · have g34 : (I.op == 34) = true := by simpa using i34
            have HV : Hid (kindB I.op (F j).op I.i = memB (F j).op) := Lib.hid (by rw [HK.out]; unfold kindL; simp [i34])
            clear i34
            go_wp2_with (first | (go_at_call 154; (with_reducible refine (HM.out _).mono ?_); rintro e w' ⟨rfl, rfl⟩) | (go_at_call 154; (with_reducible refine (HMj.out _).mono ?_); rintro e w' ⟨rfl, rfl⟩) | (go_at_call 156; refine (HBR.out _).mono ?_; rintro e w' ⟨rfl, rfl⟩) | (go_at_call 157; refine (HGD.out _).mono ?_; rintro e w' ⟨rfl, rfl⟩) | (go_at_call 158; refine (HOR.out _).mono ?_; rintro e w' ⟨rfl, rfl⟩) | (go_at_call 159; refine (HTC.out _).mono ?_; rintro e w' ⟨rfl, rfl⟩))
            go_ret
            exact ⟨by rw [HV.out]; rfl, HL6.out⟩
          have g34 : (I.op == 34) = false := by simpa using i34
          by_cases i33 : I.op = 33
          · have g33 : (I.op == 33) = true := by simpa using i33
            have HV : Hid (kindB I.op (F j).op I.i = ((F j).op == 34)) := Lib.hid (by rw [HK.out]; unfold kindL; simp [i33])
            clear i33
            go_wp2_with (first | (go_at_call 154; (with_reducible refine (HM.out _).mono ?_); rintro e w' ⟨rfl, rfl⟩) | (go_at_call 154; (with_reducible refine (HMj.out _).mono ?_); rintro e w' ⟨rfl, rfl⟩) | (go_at_call 156; refine (HBR.out _).mono ?_; rintro e w' ⟨rfl, rfl⟩) | (go_at_call 157; refine (HGD.out _).mono ?_; rintro e w' ⟨rfl, rfl⟩) | (go_at_call 158; refine (HOR.out _).mono ?_; rintro e w' ⟨rfl, rfl⟩) | (go_at_call 159; refine (HTC.out _).mono ?_; rintro e w' ⟨rfl, rfl⟩))
            go_ret
            exact ⟨by rw [HV.out]; rfl, HL6.out⟩
          have g33 : (I.op == 33) = false := by simpa using i33
          by_cases i35 : I.op = 35
          · have g35 : (I.op == 35) = true := by simpa using i35
            by_cases j35 : (F j).op = 35
            · have l35 : ((F j).op == 35) = true := by simpa using j35
              have HV : Hid (kindB I.op (F j).op I.i = true) := Lib.hid (by rw [HK.out]; unfold kindL; simp [i35, l35])
              clear i35 j35
              go_wp2_with (first | (go_at_call 154; (with_reducible refine (HM.out _).mono ?_); rintro e w' ⟨rfl, rfl⟩) | (go_at_call 154; (with_reducible refine (HMj.out _).mono ?_); rintro e w' ⟨rfl, rfl⟩) | (go_at_call 156; refine (HBR.out _).mono ?_; rintro e w' ⟨rfl, rfl⟩) | (go_at_call 157; refine (HGD.out _).mono ?_; rintro e w' ⟨rfl, rfl⟩) | (go_at_call 158; refine (HOR.out _).mono ?_; rintro e w' ⟨rfl, rfl⟩) | (go_at_call 159; refine (HTC.out _).mono ?_; rintro e w' ⟨rfl, rfl⟩))
              go_ret
              exact ⟨by rw [HV.out]; rfl, HL6.out⟩
            · have l35 : ((F j).op == 35) = false := by simpa using j35
              have HV : Hid (kindB I.op (F j).op I.i = ((F j).op == 36)) := Lib.hid (by rw [HK.out]; unfold kindL; simp [i35, l35])
              clear i35 j35
              go_wp2_with (first | (go_at_call 154; (with_reducible refine (HM.out _).mono ?_); rintro e w' ⟨rfl, rfl⟩) | (go_at_call 154; (with_reducible refine (HMj.out _).mono ?_); rintro e w' ⟨rfl, rfl⟩) | (go_at_call 156; refine (HBR.out _).mono ?_; rintro e w' ⟨rfl, rfl⟩) | (go_at_call 157; refine (HGD.out _).mono ?_; rintro e w' ⟨rfl, rfl⟩) | (go_at_call 158; refine (HOR.out _).mono ?_; rintro e w' ⟨rfl, rfl⟩) | (go_at_call 159; refine (HTC.out _).mono ?_; rintro e w' ⟨rfl, rfl⟩))
              go_ret
              exact ⟨by rw [HV.out]; rfl, HL6.out⟩
          have g35 : (I.op == 35) = false := by simpa using i35
          by_cases i36 : I.op = 36
          · have g36 : (I.op == 36) = true := by simpa using i36
            by_cases j35 : (F j).op = 35
            · have l35 : ((F j).op == 35) = true := by simpa using j35
              have HV : Hid (kindB I.op (F j).op I.i = true) := Lib.hid (by rw [HK.out]; unfold kindL; simp [i36, l35])
              clear i36 j35
              go_wp2_with (first | (go_at_call 154; (with_reducible refine (HM.out _).mono ?_); rintro e w' ⟨rfl, rfl⟩) | (go_at_call 154; (with_reducible refine (HMj.out _).mono ?_); rintro e w' ⟨rfl, rfl⟩) | (go_at_call 156; refine (HBR.out _).mono ?_; rintro e w' ⟨rfl, rfl⟩) | (go_at_call 157; refine (HGD.out _).mono ?_; rintro e w' ⟨rfl, rfl⟩) | (go_at_call 158; refine (HOR.out _).mono ?_; rintro e w' ⟨rfl, rfl⟩) | (go_at_call 159; refine (HTC.out _).mono ?_; rintro e w' ⟨rfl, rfl⟩))
              go_ret
              exact ⟨by rw [HV.out]; rfl, HL6.out⟩
            · have l35 : ((F j).op == 35) = false := by simpa using j35
              have HV : Hid (kindB I.op (F j).op I.i = ((F j).op == 36)) := Lib.hid (by rw [HK.out]; unfold kindL; simp [i36, l35])
              clear i36 j35
              go_wp2_with (first | (go_at_call 154; (with_reducible refine (HM.out _).mono ?_); rintro e w' ⟨rfl, rfl⟩) | (go_at_call 154; (with_reducible refine (HMj.out _).mono ?_); rintro e w' ⟨rfl, rfl⟩) | (go_at_call 156; refine (HBR.out _).mono ?_; rintro e w' ⟨rfl, rfl⟩) | (go_at_call 157; refine (HGD.out _).mono ?_; rintro e w' ⟨rfl, rfl⟩) | (go_at_call 158; refine (HOR.out _).mono ?_; rintro e w' ⟨rfl, rfl⟩) | (go_at_call 159; refine (HTC.out _).mono ?_; rintro e w' ⟨rfl, rfl⟩))
              go_ret
              exact ⟨by rw [HV.out]; rfl, HL6.out⟩
          have g36 : (I.op == 36) = false := by simpa using i36
          by_cases i37 : I.op = 37
          · have g37 : (I.op == 37) = true := by simpa using i37
            have HV : Hid (kindB I.op (F j).op I.i = ordB I.i (F j).op) := Lib.hid (by rw [HK.out]; unfold kindL; simp [i37])
            clear i37
            go_wp2_with (first | (go_at_call 154; (with_reducible refine (HM.out _).mono ?_); rintro e w' ⟨rfl, rfl⟩) | (go_at_call 154; (with_reducible refine (HMj.out _).mono ?_); rintro e w' ⟨rfl, rfl⟩) | (go_at_call 156; refine (HBR.out _).mono ?_; rintro e w' ⟨rfl, rfl⟩) | (go_at_call 157; refine (HGD.out _).mono ?_; rintro e w' ⟨rfl, rfl⟩) | (go_at_call 158; refine (HOR.out _).mono ?_; rintro e w' ⟨rfl, rfl⟩) | (go_at_call 159; refine (HTC.out _).mono ?_; rintro e w' ⟨rfl, rfl⟩))
            go_ret
            exact ⟨by rw [HV.out]; rfl, HL6.out⟩
          have g37 : (I.op == 37) = false := by simpa using i37
          by_cases i38 : I.op = 38
          · have g38 : (I.op == 38) = true := by simpa using i38
            have HV : Hid (kindB I.op (F j).op I.i = tchs (F j).op) := Lib.hid (by rw [HK.out]; unfold kindL; simp [i38])
            clear i38
            go_wp2_with (first | (go_at_call 154; (with_reducible refine (HM.out _).mono ?_); rintro e w' ⟨rfl, rfl⟩) | (go_at_call 154; (with_reducible refine (HMj.out _).mono ?_); rintro e w' ⟨rfl, rfl⟩) | (go_at_call 156; refine (HBR.out _).mono ?_; rintro e w' ⟨rfl, rfl⟩) | (go_at_call 157; refine (HGD.out _).mono ?_; rintro e w' ⟨rfl, rfl⟩) | (go_at_call 158; refine (HOR.out _).mono ?_; rintro e w' ⟨rfl, rfl⟩) | (go_at_call 159; refine (HTC.out _).mono ?_; rintro e w' ⟨rfl, rfl⟩))
            go_ret
            exact ⟨by rw [HV.out]; rfl, HL6.out⟩
          have g38 : (I.op == 38) = false := by simpa using i38
          by_cases i41 : I.op = 41
          · have g41 : (I.op == 41) = true := by simpa using i41
            have HV : Hid (kindB I.op (F j).op I.i = ((F j).op == 38)) := Lib.hid (by rw [HK.out]; unfold kindL; simp [i41])
            clear i41
            go_wp2_with (first | (go_at_call 154; (with_reducible refine (HM.out _).mono ?_); rintro e w' ⟨rfl, rfl⟩) | (go_at_call 154; (with_reducible refine (HMj.out _).mono ?_); rintro e w' ⟨rfl, rfl⟩) | (go_at_call 156; refine (HBR.out _).mono ?_; rintro e w' ⟨rfl, rfl⟩) | (go_at_call 157; refine (HGD.out _).mono ?_; rintro e w' ⟨rfl, rfl⟩) | (go_at_call 158; refine (HOR.out _).mono ?_; rintro e w' ⟨rfl, rfl⟩) | (go_at_call 159; refine (HTC.out _).mono ?_; rintro e w' ⟨rfl, rfl⟩))
            go_ret
            exact ⟨by rw [HV.out]; rfl, HL6.out⟩
          have g41 : (I.op == 41) = false := by simpa using i41
          by_cases i39 : I.op = 39
          · have g39 : (I.op == 39) = true := by simpa using i39
            have HV : Hid (kindB I.op (F j).op I.i = true) := Lib.hid (by rw [HK.out]; unfold kindL; simp [i39])
            clear i39
            go_wp2_with (first | (go_at_call 154; (with_reducible refine (HM.out _).mono ?_); rintro e w' ⟨rfl, rfl⟩) | (go_at_call 154; (with_reducible refine (HMj.out _).mono ?_); rintro e w' ⟨rfl, rfl⟩) | (go_at_call 156; refine (HBR.out _).mono ?_; rintro e w' ⟨rfl, rfl⟩) | (go_at_call 157; refine (HGD.out _).mono ?_; rintro e w' ⟨rfl, rfl⟩) | (go_at_call 158; refine (HOR.out _).mono ?_; rintro e w' ⟨rfl, rfl⟩) | (go_at_call 159; refine (HTC.out _).mono ?_; rintro e w' ⟨rfl, rfl⟩))
            go_ret
            exact ⟨by rw [HV.out]; rfl, HL6.out⟩
          have g39 : (I.op == 39) = false := by simpa using i39
          by_cases i42 : I.op = 42
          · have g42 : (I.op == 42) = true := by simpa using i42
            have HV : Hid (kindB I.op (F j).op I.i = true) := Lib.hid (by rw [HK.out]; unfold kindL; simp [i42])
            clear i42
            go_wp2_with (first | (go_at_call 154; (with_reducible refine (HM.out _).mono ?_); rintro e w' ⟨rfl, rfl⟩) | (go_at_call 154; (with_reducible refine (HMj.out _).mono ?_); rintro e w' ⟨rfl, rfl⟩) | (go_at_call 156; refine (HBR.out _).mono ?_; rintro e w' ⟨rfl, rfl⟩) | (go_at_call 157; refine (HGD.out _).mono ?_; rintro e w' ⟨rfl, rfl⟩) | (go_at_call 158; refine (HOR.out _).mono ?_; rintro e w' ⟨rfl, rfl⟩) | (go_at_call 159; refine (HTC.out _).mono ?_; rintro e w' ⟨rfl, rfl⟩))
            go_ret
            exact ⟨by rw [HV.out]; rfl, HL6.out⟩
          have g42 : (I.op == 42) = false := by simpa using i42
          by_cases i0 : I.op = 0
          · have g0 : (I.op == 0) = true := by simpa using i0
            have HV : Hid (kindB I.op (F j).op I.i = true) := Lib.hid (by rw [HK.out]; unfold kindL; simp [i0])
            clear i0
            go_wp2_with (first | (go_at_call 154; (with_reducible refine (HM.out _).mono ?_); rintro e w' ⟨rfl, rfl⟩) | (go_at_call 154; (with_reducible refine (HMj.out _).mono ?_); rintro e w' ⟨rfl, rfl⟩) | (go_at_call 156; refine (HBR.out _).mono ?_; rintro e w' ⟨rfl, rfl⟩) | (go_at_call 157; refine (HGD.out _).mono ?_; rintro e w' ⟨rfl, rfl⟩) | (go_at_call 158; refine (HOR.out _).mono ?_; rintro e w' ⟨rfl, rfl⟩) | (go_at_call 159; refine (HTC.out _).mono ?_; rintro e w' ⟨rfl, rfl⟩))
            go_ret
            exact ⟨by rw [HV.out]; rfl, HL6.out⟩
          have g0 : (I.op == 0) = false := by simpa using i0
          have HV : Hid (kindB I.op (F j).op I.i = false) := Lib.hid (by rw [HK.out]; unfold kindL; simp [i34, i33, i35, i36, i37, i38, i41, i39, i42, i0])
          clear i34 i33 i35 i36 i37 i38 i41 i39 i42 i0
          go_wp2_with (first | (go_at_call 154; (with_reducible refine (HM.out _).mono ?_); rintro e w' ⟨rfl, rfl⟩) | (go_at_call 154; (with_reducible refine (HMj.out _).mono ?_); rintro e w' ⟨rfl, rfl⟩) | (go_at_call 156; refine (HBR.out _).mono ?_; rintro e w' ⟨rfl, rfl⟩) | (go_at_call 157; refine (HGD.out _).mono ?_; rintro e w' ⟨rfl, rfl⟩) | (go_at_call 158; refine (HOR.out _).mono ?_; rintro e w' ⟨rfl, rfl⟩) | (go_at_call 159; refine (HTC.out _).mono ?_; rintro e w' ⟨rfl, rfl⟩))
          go_ret
          exact ⟨by rw [HV.out]; rfl, HL6.out⟩
        rotate_left 1
        · rw [k3] at HGD
          clear k1 k2 k3
          by_cases i34 : I.op = 34
          · have g34 : (I.op == 34) = true := by simpa using i34
            have HV : Hid (kindB I.op (F j).op I.i = memB (F j).op) := Lib.hid (by rw [HK.out]; unfold kindL; simp [i34])
            clear i34
            go_wp2_with (first | (go_at_call 154; (with_reducible refine (HM.out _).mono ?_); rintro e w' ⟨rfl, rfl⟩) | (go_at_call 154; (with_reducible refine (HMj.out _).mono ?_); rintro e w' ⟨rfl, rfl⟩) | (go_at_call 156; refine (HBR.out _).mono ?_; rintro e w' ⟨rfl, rfl⟩) | (go_at_call 157; refine (HGD.out _).mono ?_; rintro e w' ⟨rfl, rfl⟩) | (go_at_call 158; refine (HOR.out _).mono ?_; rintro e w' ⟨rfl, rfl⟩) | (go_at_call 159; refine (HTC.out _).mono ?_; rintro e w' ⟨rfl, rfl⟩))
            go_ret
            exact ⟨by rw [HV.out]; rfl, HL6.out⟩
          have g34 : (I.op == 34) = false := by simpa using i34
          by_cases i33 : I.op = 33
          · have g33 : (I.op == 33) = true := by simpa using i33
            have HV : Hid (kindB I.op (F j).op I.i = ((F j).op == 34)) := Lib.hid (by rw [HK.out]; unfold kindL; simp [i33])
            clear i33
            go_wp2_with (first | (go_at_call 154; (with_reducible refine (HM.out _).mono ?_); rintro e w' ⟨rfl, rfl⟩) | (go_at_call 154; (with_reducible refine (HMj.out _).mono ?_); rintro e w' ⟨rfl, rfl⟩) | (go_at_call 156; refine (HBR.out _).mono ?_; rintro e w' ⟨rfl, rfl⟩) | (go_at_call 157; refine (HGD.out _).mono ?_; rintro e w' ⟨rfl, rfl⟩) | (go_at_call 158; refine (HOR.out _).mono ?_; rintro e w' ⟨rfl, rfl⟩) | (go_at_call 159; refine (HTC.out _).mono ?_; rintro e w' ⟨rfl, rfl⟩))
            go_ret
            exact ⟨by rw [HV.out]; rfl, HL6.out⟩
          have g33 : (I.op == 33) = false := by simpa using i33
          by_cases i35 : I.op = 35
          · have g35 : (I.op == 35) = true := by simpa using i35
            by_cases j35 : (F j).op = 35
            · have l35 : ((F j).op == 35) = true := by simpa using j35
              have HV : Hid (kindB I.op (F j).op I.i = true) := Lib.hid (by rw [HK.out]; unfold kindL; simp [i35, l35])
              clear i35 j35
              go_wp2_with (first | (go_at_call 154; (with_reducible refine (HM.out _).mono ?_); rintro e w' ⟨rfl, rfl⟩) | (go_at_call 154; (with_reducible refine (HMj.out _).mono ?_); rintro e w' ⟨rfl, rfl⟩) | (go_at_call 156; refine (HBR.out _).mono ?_; rintro e w' ⟨rfl, rfl⟩) | (go_at_call 157; refine (HGD.out _).mono ?_; rintro e w' ⟨rfl, rfl⟩) | (go_at_call 158; refine (HOR.out _).mono ?_; rintro e w' ⟨rfl, rfl⟩) | (go_at_call 159; refine (HTC.out _).mono ?_; rintro e w' ⟨rfl, rfl⟩))
              go_ret
              exact ⟨by rw [HV.out]; rfl, HL6.out⟩
            · have l35 : ((F j).op == 35) = false := by simpa using j35
              have HV : Hid (kindB I.op (F j).op I.i = ((F j).op == 36)) := Lib.hid (by rw [HK.out]; unfold kindL; simp [i35, l35])
              clear i35 j35
              go_wp2_with (first | (go_at_call 154; (with_reducible refine (HM.out _).mono ?_); rintro e w' ⟨rfl, rfl⟩) | (go_at_call 154; (with_reducible refine (HMj.out _).mono ?_); rintro e w' ⟨rfl, rfl⟩) | (go_at_call 156; refine (HBR.out _).mono ?_; rintro e w' ⟨rfl, rfl⟩) | (go_at_call 157; refine (HGD.out _).mono ?_; rintro e w' ⟨rfl, rfl⟩) | (go_at_call 158; refine (HOR.out _).mono ?_; rintro e w' ⟨rfl, rfl⟩) | (go_at_call 159; refine (HTC.out _).mono ?_; rintro e w' ⟨rfl, rfl⟩))
              go_ret
              exact ⟨by rw [HV.out]; rfl, HL6.out⟩
          have g35 : (I.op == 35) = false := by simpa using i35
          by_cases i36 : I.op = 36
          · have g36 : (I.op == 36) = true := by simpa using i36
            by_cases j35 : (F j).op = 35
            · have l35 : ((F j).op == 35) = true := by simpa using j35
              have HV : Hid (kindB I.op (F j).op I.i = true) := Lib.hid (by rw [HK.out]; unfold kindL; simp [i36, l35])
              clear i36 j35
              go_wp2_with (first | (go_at_call 154; (with_reducible refine (HM.out _).mono ?_); rintro e w' ⟨rfl, rfl⟩) | (go_at_call 154; (with_reducible refine (HMj.out _).mono ?_); rintro e w' ⟨rfl, rfl⟩) | (go_at_call 156; refine (HBR.out _).mono ?_; rintro e w' ⟨rfl, rfl⟩) | (go_at_call 157; refine (HGD.out _).mono ?_; rintro e w' ⟨rfl, rfl⟩) | (go_at_call 158; refine (HOR.out _).mono ?_; rintro e w' ⟨rfl, rfl⟩) | (go_at_call 159; refine (HTC.out _).mono ?_; rintro e w' ⟨rfl, rfl⟩))
              go_ret
              exact ⟨by rw [HV.out]; rfl, HL6.out⟩
            · have l35 : ((F j).op == 35) = false := by simpa using j35
              have HV : Hid (kindB I.op (F j).op I.i = ((F j).op == 36)) := Lib.hid (by rw [HK.out]; unfold kindL; simp [i36, l35])
              clear i36 j35
              go_wp2_with (first | (go_at_call 154; (with_reducible refine (HM.out _).mono ?_); rintro e w' ⟨rfl, rfl⟩) | (go_at_call 154; (with_reducible refine (HMj.out _).mono ?_); rintro e w' ⟨rfl, rfl⟩) | (go_at_call 156; refine (HBR.out _).mono ?_; rintro e w' ⟨rfl, rfl⟩) | (go_at_call 157; refine (HGD.out _).mono ?_; rintro e w' ⟨rfl, rfl⟩) | (go_at_call 158; refine (HOR.out _).mono ?_; rintro e w' ⟨rfl, rfl⟩) | (go_at_call 159; refine (HTC.out _).mono ?_; rintro e w' ⟨rfl, rfl⟩))
              go_ret
              exact ⟨by rw [HV.out]; rfl, HL6.out⟩
          have g36 : (I.op == 36) = false := by simpa using i36
          by_cases i37 : I.op = 37
          · have g37 : (I.op == 37) = true := by simpa using i37
            have HV : Hid (kindB I.op (F j).op I.i = ordB I.i (F j).op) := Lib.hid (by rw [HK.out]; unfold kindL; simp [i37])
            clear i37
            go_wp2_with (first | (go_at_call 154; (with_reducible refine (HM.out _).mono ?_); rintro e w' ⟨rfl, rfl⟩) | (go_at_call 154; (with_reducible refine (HMj.out _).mono ?_); rintro e w' ⟨rfl, rfl⟩) | (go_at_call 156; refine (HBR.out _).mono ?_; rintro e w' ⟨rfl, rfl⟩) | (go_at_call 157; refine (HGD.out _).mono ?_; rintro e w' ⟨rfl, rfl⟩) | (go_at_call 158; refine (HOR.out _).mono ?_; rintro e w' ⟨rfl, rfl⟩) | (go_at_call 159; refine (HTC.out _).mono ?_; rintro e w' ⟨rfl, rfl⟩))
            go_ret
            exact ⟨by rw [HV.out]; rfl, HL6.out⟩
          have g37 : (I.op == 37) = false := by simpa using i37
          by_cases i38 : I.op = 38
          · have g38 : (I.op == 38) = true := by simpa using i38
            have HV : Hid (kindB I.op (F j).op I.i = tchs (F j).op) := Lib.hid (by rw [HK.out]; unfold kindL; simp [i38])
            clear i38
            go_wp2_with (first | (go_at_call 154; (with_reducible refine (HM.out _).mono ?_); rintro e w' ⟨rfl, rfl⟩) | (go_at_call 154; (with_reducible refine (HMj.out _).mono ?_); rintro e w' ⟨rfl, rfl⟩) | (go_at_call 156; refine (HBR.out _).mono ?_; rintro e w' ⟨rfl, rfl⟩) | (go_at_call 157; refine (HGD.out _).mono ?_; rintro e w' ⟨rfl, rfl⟩) | (go_at_call 158; refine (HOR.out _).mono ?_; rintro e w' ⟨rfl, rfl⟩) | (go_at_call 159; refine (HTC.out _).mono ?_; rintro e w' ⟨rfl, rfl⟩))
            go_ret
            exact ⟨by rw [HV.out]; rfl, HL6.out⟩
          have g38 : (I.op == 38) = false := by simpa using i38
          by_cases i41 : I.op = 41
          · have g41 : (I.op == 41) = true := by simpa using i41
            have HV : Hid (kindB I.op (F j).op I.i = ((F j).op == 38)) := Lib.hid (by rw [HK.out]; unfold kindL; simp [i41])
            clear i41
            go_wp2_with (first | (go_at_call 154; (with_reducible refine (HM.out _).mono ?_); rintro e w' ⟨rfl, rfl⟩) | (go_at_call 154; (with_reducible refine (HMj.out _).mono ?_); rintro e w' ⟨rfl, rfl⟩) | (go_at_call 156; refine (HBR.out _).mono ?_; rintro e w' ⟨rfl, rfl⟩) | (go_at_call 157; refine (HGD.out _).mono ?_; rintro e w' ⟨rfl, rfl⟩) | (go_at_call 158; refine (HOR.out _).mono ?_; rintro e w' ⟨rfl, rfl⟩) | (go_at_call 159; refine (HTC.out _).mono ?_; rintro e w' ⟨rfl, rfl⟩))
            go_ret
            exact ⟨by rw [HV.out]; rfl, HL6.out⟩
          have g41 : (I.op == 41) = false := by simpa using i41
          by_cases i39 : I.op = 39
          · have g39 : (I.op == 39) = true := by simpa using i39
            have HV : Hid (kindB I.op (F j).op I.i = true) := Lib.hid (by rw [HK.out]; unfold kindL; simp [i39])
            clear i39
            go_wp2_with (first | (go_at_call 154; (with_reducible refine (HM.out _).mono ?_); rintro e w' ⟨rfl, rfl⟩) | (go_at_call 154; (with_reducible refine (HMj.out _).mono ?_); rintro e w' ⟨rfl, rfl⟩) | (go_at_call 156; refine (HBR.out _).mono ?_; rintro e w' ⟨rfl, rfl⟩) | (go_at_call 157; refine (HGD.out _).mono ?_; rintro e w' ⟨rfl, rfl⟩) | (go_at_call 158; refine (HOR.out _).mono ?_; rintro e w' ⟨rfl, rfl⟩) | (go_at_call 159; refine (HTC.out _).mono ?_; rintro e w' ⟨rfl, rfl⟩))
            go_ret
            exact ⟨by rw [HV.out]; rfl, HL6.out⟩
          have g39 : (I.op == 39) = false := by simpa using i39
          by_cases i42 : I.op = 42
          · have g42 : (I.op == 42) = true := by simpa using i42
            have HV : Hid (kindB I.op (F j).op I.i = true) := Lib.hid (by rw [HK.out]; unfold kindL; simp [i42])
            clear i42
            go_wp2_with (first | (go_at_call 154; (with_reducible refine (HM.out _).mono ?_); rintro e w' ⟨rfl, rfl⟩) | (go_at_call 154; (with_reducible refine (HMj.out _).mono ?_); rintro e w' ⟨rfl, rfl⟩) | (go_at_call 156; refine (HBR.out _).mono ?_; rintro e w' ⟨rfl, rfl⟩) | (go_at_call 157; refine (HGD.out _).mono ?_; rintro e w' ⟨rfl, rfl⟩) | (go_at_call 158; refine (HOR.out _).mono ?_; rintro e w' ⟨rfl, rfl⟩) | (go_at_call 159; refine (HTC.out _).mono ?_; rintro e w' ⟨rfl, rfl⟩))
            go_ret
            exact ⟨by rw [HV.out]; rfl, HL6.out⟩
          have g42 : (I.op == 42) = false := by simpa using i42
          by_cases i0 : I.op = 0
          · have g0 : (I.op == 0) = true := by simpa using i0
            have HV : Hid (kindB I.op (F j).op I.i = true) := Lib.hid (by rw [HK.out]; unfold kindL; simp [i0])
            clear i0
            go_wp2_with (first | (go_at_call 154; (with_reducible refine (HM.out _).mono ?_); rintro e w' ⟨rfl, rfl⟩) | (go_at_call 154; (with_reducible refine (HMj.out _).mono ?_); rintro e w' ⟨rfl, rfl⟩) | (go_at_call 156; refine (HBR.out _).mono ?_; rintro e w' ⟨rfl, rfl⟩) | (go_at_call 157; refine (HGD.out _).mono ?_; rintro e w' ⟨rfl, rfl⟩) | (go_at_call 158; refine (HOR.out _).mono ?_; rintro e w' ⟨rfl, rfl⟩) | (go_at_call 159; refine (HTC.out _).mono ?_; rintro e w' ⟨rfl, rfl⟩))
            go_ret
            exact ⟨by rw [HV.out]; rfl, HL6.out⟩
          have g0 : (I.op == 0) = false := by simpa using i0
          have HV : Hid (kindB I.op (F j).op I.i = false) := Lib.hid (by rw [HK.out]; unfold kindL; simp [i34, i33, i35, i36, i37, i38, i41, i39, i42, i0])
          clear i34 i33 i35 i36 i37 i38 i41 i39 i42 i0
          go_wp2_with (first | (go_at_call 154; (with_reducible refine (HM.out _).mono ?_); rintro e w' ⟨rfl, rfl⟩) | (go_at_call 154; (with_reducible refine (HMj.out _).mono ?_); rintro e w' ⟨rfl, rfl⟩) | (go_at_call 156; refine (HBR.out _).mono ?_; rintro e w' ⟨rfl, rfl⟩) | (go_at_call 157; refine (HGD.out _).mono ?_; rintro e w' ⟨rfl, rfl⟩) | (go_at_call 158; refine (HOR.out _).mono ?_; rintro e w' ⟨rfl, rfl⟩) | (go_at_call 159; refine (HTC.out _).mono ?_; rintro e w' ⟨rfl, rfl⟩))
          go_ret
          exact ⟨by rw [HV.out]; rfl, HL6.out⟩
        all_goals
          clear k1 k2
          by_cases i34 : I.op = 34
          · have g34 : (I.op == 34) = true := by simpa using i34
            have HV : Hid (kindB I.op (F j).op I.i = memB (F j).op) := Lib.hid (by rw [HK.out]; unfold kindL; simp [i34])
            clear i34
            go_wp2_with (first | (go_at_call 154; (with_reducible refine (HM.out _).mono ?_); rintro e w' ⟨rfl, rfl⟩) | (go_at_call 154; (with_reducible refine (HMj.out _).mono ?_); rintro e w' ⟨rfl, rfl⟩) | (go_at_call 156; refine (HBR.out _).mono ?_; rintro e w' ⟨rfl, rfl⟩) | (go_at_call 157; refine (HGD.out _).mono ?_; rintro e w' ⟨rfl, rfl⟩) | (go_at_call 158; refine (HOR.out _).mono ?_; rintro e w' ⟨rfl, rfl⟩) | (go_at_call 159; refine (HTC.out _).mono ?_; rintro e w' ⟨rfl, rfl⟩))
            go_ret
            exact ⟨by rw [HV.out]; rfl, HL6.out⟩
          have g34 : (I.op == 34) = false := by simpa using i34
          by_cases i33 : I.op = 33
          · have g33 : (I.op == 33) = true := by simpa using i33
            have HV : Hid (kindB I.op (F j).op I.i = ((F j).op == 34)) := Lib.hid (by rw [HK.out]; unfold kindL; simp [i33])
            clear i33
            go_wp2_with (first | (go_at_call 154; (with_reducible refine (HM.out _).mono ?_); rintro e w' ⟨rfl, rfl⟩) | (go_at_call 154; (with_reducible refine (HMj.out _).mono ?_); rintro e w' ⟨rfl, rfl⟩) | (go_at_call 156; refine (HBR.out _).mono ?_; rintro e w' ⟨rfl, rfl⟩) | (go_at_call 157; refine (HGD.out _).mono ?_; rintro e w' ⟨rfl, rfl⟩) | (go_at_call 158; refine (HOR.out _).mono ?_; rintro e w' ⟨rfl, rfl⟩) | (go_at_call 159; refine (HTC.out _).mono ?_; rintro e w' ⟨rfl, rfl⟩))
            go_ret
            exact ⟨by rw [HV.out]; rfl, HL6.out⟩
          have g33 : (I.op == 33) = false := by simpa using i33
          by_cases i35 : I.op = 35
          · have g35 : (I.op == 35) = true := by simpa using i35
            by_cases j35 : (F j).op = 35
            · have l35 : ((F j).op == 35) = true := by simpa using j35
              have HV : Hid (kindB I.op (F j).op I.i = true) := Lib.hid (by rw [HK.out]; unfold kindL; simp [i35, l35])
              clear i35 j35
              go_wp2_with (first | (go_at_call 154; (with_reducible refine (HM.out _).mono ?_); rintro e w' ⟨rfl, rfl⟩) | (go_at_call 154; (with_reducible refine (HMj.out _).mono ?_); rintro e w' ⟨rfl, rfl⟩) | (go_at_call 156; refine (HBR.out _).mono ?_; rintro e w' ⟨rfl, rfl⟩) | (go_at_call 157; refine (HGD.out _).mono ?_; rintro e w' ⟨rfl, rfl⟩) | (go_at_call 158; refine (HOR.out _).mono ?_; rintro e w' ⟨rfl, rfl⟩) | (go_at_call 159; refine (HTC.out _).mono ?_; rintro e w' ⟨rfl, rfl⟩))
              go_ret
              exact ⟨by rw [HV.out]; rfl, HL6.out⟩
            · have l35 : ((F j).op == 35) = false := by simpa using j35
              have HV : Hid (kindB I.op (F j).op I.i = ((F j).op == 36)) := Lib.hid (by rw [HK.out]; unfold kindL; simp [i35, l35])
              clear i35 j35
              go_wp2_with (first | (go_at_call 154; (with_reducible refine (HM.out _).mono ?_); rintro e w' ⟨rfl, rfl⟩) | (go_at_call 154; (with_reducible refine (HMj.out _).mono ?_); rintro e w' ⟨rfl, rfl⟩) | (go_at_call 156; refine (HBR.out _).mono ?_; rintro e w' ⟨rfl, rfl⟩) | (go_at_call 157; refine (HGD.out _).mono ?_; rintro e w' ⟨rfl, rfl⟩) | (go_at_call 158; refine (HOR.out _).mono ?_; rintro e w' ⟨rfl, rfl⟩) | (go_at_call 159; refine (HTC.out _).mono ?_; rintro e w' ⟨rfl, rfl⟩))
              go_ret
              exact ⟨by rw [HV.out]; rfl, HL6.out⟩
          have g35 : (I.op == 35) = false := by simpa using i35
          by_cases i36 : I.op = 36
          · have g36 : (I.op == 36) = true := by simpa using i36
            by_cases j35 : (F j).op = 35
            · have l35 : ((F j).op == 35) = true := by simpa using j35
              have HV : Hid (kindB I.op (F j).op I.i = true) := Lib.hid (by rw [HK.out]; unfold kindL; simp [i36, l35])
              clear i36 j35
              go_wp2_with (first | (go_at_call 154; (with_reducible refine (HM.out _).mono ?_); rintro e w' ⟨rfl, rfl⟩) | (go_at_call 154; (with_reducible refine (HMj.out _).mono ?_); rintro e w' ⟨rfl, rfl⟩) | (go_at_call 156; refine (HBR.out _).mono ?_; rintro e w' ⟨rfl, rfl⟩) | (go_at_call 157; refine (HGD.out _).mono ?_; rintro e w' ⟨rfl, rfl⟩) | (go_at_call 158; refine (HOR.out _).mono ?_; rintro e w' ⟨rfl, rfl⟩) | (go_at_call 159; refine (HTC.out _).mono ?_; rintro e w' ⟨rfl, rfl⟩))
              go_ret
              exact ⟨by rw [HV.out]; rfl, HL6.out⟩
            · have l35 : ((F j).op == 35) = false := by simpa using j35
              have HV : Hid (kindB I.op (F j).op I.i = ((F j).op == 36)) := Lib.hid (by rw [HK.out]; unfold kindL; simp [i36, l35])
              clear i36 j35
              go_wp2_with (first | (go_at_call 154; (with_reducible refine (HM.out _).mono ?_); rintro e w' ⟨rfl, rfl⟩) | (go_at_call 154; (with_reducible refine (HMj.out _).mono ?_); rintro e w' ⟨rfl, rfl⟩) | (go_at_call 156; refine (HBR.out _).mono ?_; rintro e w' ⟨rfl, rfl⟩) | (go_at_call 157; refine (HGD.out _).mono ?_; rintro e w' ⟨rfl, rfl⟩) | (go_at_call 158; refine (HOR.out _).mono ?_; rintro e w' ⟨rfl, rfl⟩) | (go_at_call 159; refine (HTC.out _).mono ?_; rintro e w' ⟨rfl, rfl⟩))
              go_ret
              exact ⟨by rw [HV.out]; rfl, HL6.out⟩
          have g36 : (I.op == 36) = false := by simpa using i36
          by_cases i37 : I.op = 37
          · have g37 : (I.op == 37) = true := by simpa using i37
            have HV : Hid (kindB I.op (F j).op I.i = ordB I.i (F j).op) := Lib.hid (by rw [HK.out]; unfold kindL; simp [i37])
            clear i37
            go_wp2_with (first | (go_at_call 154; (with_reducible refine (HM.out _).mono ?_); rintro e w' ⟨rfl, rfl⟩) | (go_at_call 154; (with_reducible refine (HMj.out _).mono ?_); rintro e w' ⟨rfl, rfl⟩) | (go_at_call 156; refine (HBR.out _).mono ?_; rintro e w' ⟨rfl, rfl⟩) | (go_at_call 157; refine (HGD.out _).mono ?_; rintro e w' ⟨rfl, rfl⟩) | (go_at_call 158; refine (HOR.out _).mono ?_; rintro e w' ⟨rfl, rfl⟩) | (go_at_call 159; refine (HTC.out _).mono ?_; rintro e w' ⟨rfl, rfl⟩))
            go_ret
            exact ⟨by rw [HV.out]; rfl, HL6.out⟩
          have g37 : (I.op == 37) = false := by simpa using i37
          by_cases i38 : I.op = 38
          · have g38 : (I.op == 38) = true := by simpa using i38
            have HV : Hid (kindB I.op (F j).op I.i = tchs (F j).op) := Lib.hid (by rw [HK.out]; unfold kindL; simp [i38])
            clear i38
            go_wp2_with (first | (go_at_call 154; (with_reducible refine (HM.out _).mono ?_); rintro e w' ⟨rfl, rfl⟩) | (go_at_call 154; (with_reducible refine (HMj.out _).mono ?_); rintro e w' ⟨rfl, rfl⟩) | (go_at_call 156; refine (HBR.out _).mono ?_; rintro e w' ⟨rfl, rfl⟩) | (go_at_call 157; refine (HGD.out _).mono ?_; rintro e w' ⟨rfl, rfl⟩) | (go_at_call 158; refine (HOR.out _).mono ?_; rintro e w' ⟨rfl, rfl⟩) | (go_at_call 159; refine (HTC.out _).mono ?_; rintro e w' ⟨rfl, rfl⟩))
            go_ret
            exact ⟨by rw [HV.out]; rfl, HL6.out⟩
          have g38 : (I.op == 38) = false := by simpa using i38
          by_cases i41 : I.op = 41
          · have g41 : (I.op == 41) = true := by simpa using i41
            have HV : Hid (kindB I.op (F j).op I.i = ((F j).op == 38)) := Lib.hid (by rw [HK.out]; unfold kindL; simp [i41])
            clear i41
            go_wp2_with (first | (go_at_call 154; (with_reducible refine (HM.out _).mono ?_); rintro e w' ⟨rfl, rfl⟩) | (go_at_call 154; (with_reducible refine (HMj.out _).mono ?_); rintro e w' ⟨rfl, rfl⟩) | (go_at_call 156; refine (HBR.out _).mono ?_; rintro e w' ⟨rfl, rfl⟩) | (go_at_call 157; refine (HGD.out _).mono ?_; rintro e w' ⟨rfl, rfl⟩) | (go_at_call 158; refine (HOR.out _).mono ?_; rintro e w' ⟨rfl, rfl⟩) | (go_at_call 159; refine (HTC.out _).mono ?_; rintro e w' ⟨rfl, rfl⟩))
            go_ret
            exact ⟨by rw [HV.out]; rfl, HL6.out⟩
          have g41 : (I.op == 41) = false := by simpa using i41
          by_cases i39 : I.op = 39
          · have g39 : (I.op == 39) = true := by simpa using i39
            have HV : Hid (kindB I.op (F j).op I.i = true) := Lib.hid (by rw [HK.out]; unfold kindL; simp [i39])
            clear i39
            go_wp2_with (first | (go_at_call 154; (with_reducible refine (HM.out _).mono ?_); rintro e w' ⟨rfl, rfl⟩) | (go_at_call 154; (with_reducible refine (HMj.out _).mono ?_); rintro e w' ⟨rfl, rfl⟩) | (go_at_call 156; refine (HBR.out _).mono ?_; rintro e w' ⟨rfl, rfl⟩) | (go_at_call 157; refine (HGD.out _).mono ?_; rintro e w' ⟨rfl, rfl⟩) | (go_at_call 158; refine (HOR.out _).mono ?_; rintro e w' ⟨rfl, rfl⟩) | (go_at_call 159; refine (HTC.out _).mono ?_; rintro e w' ⟨rfl, rfl⟩))
            go_ret
            exact ⟨by rw [HV.out]; rfl, HL6.out⟩
          have g39 : (I.op == 39) = false := by simpa using i39
          by_cases i42 : I.op = 42
          · have g42 : (I.op == 42) = true := by simpa using i42
            have HV : Hid (kindB I.op (F j).op I.i = true) := Lib.hid (by rw [HK.out]; unfold kindL; simp [i42])
            clear i42
            go_wp2_with (first | (go_at_call 154; (with_reducible refine (HM.out _).mono ?_); rintro e w' ⟨rfl, rfl⟩) | (go_at_call 154; (with_reducible refine (HMj.out _).mono ?_); rintro e w' ⟨rfl, rfl⟩) | (go_at_call 156; refine (HBR.out _).mono ?_; rintro e w' ⟨rfl, rfl⟩) | (go_at_call 157; refine (HGD.out _).mono ?_; rintro e w' ⟨rfl, rfl⟩) | (go_at_call 158; refine (HOR.out _).mono ?_; rintro e w' ⟨rfl, rfl⟩) | (go_at_call 159; refine (HTC.out _).mono ?_; rintro e w' ⟨rfl, rfl⟩))
            go_ret
            exact ⟨by rw [HV.out]; rfl, HL6.out⟩
          have g42 : (I.op == 42) = false := by simpa using i42
          by_cases i0 : I.op = 0
          · have g0 : (I.op == 0) = true := by simpa using i0
            have HV : Hid (kindB I.op (F j).op I.i = true) := Lib.hid (by rw [HK.out]; unfold kindL; simp [i0])
            clear i0
            go_wp2_with (first | (go_at_call 154; (with_reducible refine (HM.out _).mono ?_); rintro e w' ⟨rfl, rfl⟩) | (go_at_call 154; (with_reducible refine (HMj.out _).mono ?_); rintro e w' ⟨rfl, rfl⟩) | (go_at_call 156; refine (HBR.out _).mono ?_; rintro e w' ⟨rfl, rfl⟩) | (go_at_call 157; refine (HGD.out _).mono ?_; rintro e w' ⟨rfl, rfl⟩) | (go_at_call 158; refine (HOR.out _).mono ?_; rintro e w' ⟨rfl, rfl⟩) | (go_at_call 159; refine (HTC.out _).mono ?_; rintro e w' ⟨rfl, rfl⟩))
            go_ret
            exact ⟨by rw [HV.out]; rfl, HL6.out⟩
          have g0 : (I.op == 0) = false := by simpa using i0
          have HV : Hid (kindB I.op (F j).op I.i = false) := Lib.hid (by rw [HK.out]; unfold kindL; simp [i34, i33, i35, i36, i37, i38, i41, i39, i42, i0])
          clear i34 i33 i35 i36 i37 i38 i41 i39 i42 i0
          go_wp2_with (first | (go_at_call 154; (with_reducible refine (HM.out _).mono ?_); rintro e w' ⟨rfl, rfl⟩) | (go_at_call 154; (with_reducible refine (HMj.out _).mono ?_); rintro e w' ⟨rfl, rfl⟩) | (go_at_call 156; refine (HBR.out _).mono ?_; rintro e w' ⟨rfl, rfl⟩) | (go_at_call 157; refine (HGD.out _).mono ?_; rintro e w' ⟨rfl, rfl⟩) | (go_at_call 158; refine (HOR.out _).mono ?_; rintro e w' ⟨rfl, rfl⟩) | (go_at_call 159; refine (HTC.out _).mono ?_; rintro e w' ⟨rfl, rfl⟩))
          go_ret
          exact ⟨by rw [HV.out]; rfl, HL6.out⟩
end Go.Proofs.Ytnbpgoacooddjaa
