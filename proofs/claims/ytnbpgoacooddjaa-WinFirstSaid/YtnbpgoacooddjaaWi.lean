import Derived.WalkKit
import Derived.ProofKit
import Derived.OpenShut
import Derived.Deep.QuietTactic
import Derived.BigQuiet
import Derived.Outline
import Derived.WalkSmall
import Derived.WalkLawsBesides
import Derived.WalkSpells
import Derived.BigGuardPart
import Derived.RegionTactic
import Derived.Deep.RegionHeld3
import Derived.Lib.Hide
import Derived.Deep.MidRow
import Derived.Below
import Derived.Deep.RegionWith
import Derived.Deep.OwnRows
import Derived.Deep.AppendLies
import Derived.Deep.RegionLaw
import Derived.Laws.BitsAllLaws
import Derived.Laws.BitsLemmas
import Derived.Deep.CutBlock
import Derived.Deep.DeepCutAuto
import Derived.Deep.CutRange
import Derived.Test.YtnbpgoacooddjaaWh
namespace Go.Proofs.Ytnbpgoacooddjaa
open Go.ChangeShapes Go.WideShapes Go.ChangeAt Go.RowKit
set_option linter.unusedVariables false
theorem ld29 (v : Value) : Instr.loadAt 29 v = ldAt 29 v := rfl
theorem st29 (p v : Value) : Instr.storeAt 29 p v = stAt 29 p v := rfl
attribute [local go_sem ↓] ld29 st29 ld126
attribute [local go_sem] rowAt_drew rowAt_drewN
/-- An instruction that is held against those ahead of it. -/
def trA (VA : Array Value) (I : WI) (tp : Option Int) (fw : Bool) : Array Value := VA ++ I.ins ++ touchA tp fw
theorem trA_size {VA : Array Value} (h : VA.size = 38) (I : WI) (tp : Option Int) (fw : Bool) : (trA VA I tp fw).size = 48 := by simp [trA, h, WI.ins, touchA]
theorem trA_lo {VA : Array Value} (h : VA.size = 38) (I : WI) (tp : Option Int) (fw : Bool) (k : Nat) (hk : k < 38) : (trA VA I tp fw)[k]? = VA[k]? := by
  unfold trA
  rw [Array.getElem?_append_left (by simp [h]; omega), Array.getElem?_append_left (by omega)]
theorem trA_in {VA : Array Value} (h : VA.size = 38) (I : WI) (tp : Option Int) (fw : Bool) (k : Nat) (hk : k < 7) : (trA VA I tp fw)[38 + k]? = I.ins[k]? := by
  unfold trA
  rw [Array.getElem?_append_left (by simp [h, WI.ins]; omega), Array.getElem?_append_right (by omega)]
  simp [h]
theorem trA_to {VA : Array Value} (h : VA.size = 38) (I : WI) (tp : Option Int) (fw : Bool) (k : Nat) : (trA VA I tp fw)[45 + k]? = (touchA tp fw)[k]? := by
  unfold trA
  rw [Array.getElem?_append_right (by simp [h, WI.ins])]
  simp [h, WI.ins]
theorem trA_0 (b off n cap g m : Nat) (r : Rg) (I : WI) (tp : Option Int) (fw : Bool) : (trA (vwA b off n cap r g m) I tp fw)[0]? = some (.slice (some ⟨b, off, none⟩) n cap) := by
  rw [trA_lo (vwA_size _ _ _ _ _ _ _) _ _ _ _ (by decide)]
  exact vwA_0 _ _ _ _ _ _ _
theorem tr_ins {w : World} {x b off n cap g m : Nat} {r : Rg} {I : WI} {tp : Option Int} {fw : Bool} (h : rowAt w x = some (trA (vwA b off n cap r g m) I tp fw)) : (Instr.loadAt 29 (.pointer (some ⟨x, 38, none⟩))).run Try.prog w = .ok (.agg I.ins) w :=
  load_mid Try.underlying29 rfl _ 38 _ (by exact info29) w (fun k v hv => by
    have hk : k < 7 := (Array.getElem?_eq_some_iff.1 hv).1
    rw [rowAt_cell h, trA_in (vwA_size _ _ _ _ _ _ _) _ _ _ _ hk]
    exact hv)
theorem st_ins {w : World} {x : Nat} {C D : Array Value} (h : rowAt w x = some C) (hc : C.size = 7) (hs : D.size = 7) (h1 : D.all (·.oneCell') = true) : (stAt 29 (.pointer (some ⟨x, 0, none⟩)) (.agg D)).run Try.prog w = .ok () (w.setCells x 0 D.toList) := by
  refine run_storeAt_mid w x 0 29 D (fun j hj => ?_) (by rw [hs]; exact info29) h1
  rw [Nat.zero_add]
  refine ⟨?_, rowAt_frz h j⟩
  rw [rowAt_cell h j, Array.getElem?_eq_getElem (by omega)]
  rfl
def branchB (o : Int) : Bool := decide (20 ≤ o) && decide (o ≤ 27)
def goodB (o : Int) : Bool := o == 35 || o == 40 || o == 41 || o == 42 || storeB o
def barB (oi oj ij : Int) : Bool := if oj = 39 then true else if oj = 38 then (oi == 40 || oi == 41 || oi == 37 || oi == 38 || oi == 39 || oi == 42 || memB oi) else if oj = 37 then (memB oi && (!(ij == 2) || storeB oi)) else false
set_option maxRecDepth 100000 in
set_option maxHeartbeats 8000000 in
theorem barrier_c (F : Nat → WI) (I : WI) (r : Rg) (b off n cap g m j : Nat) (tp : Option Int) (fw : Bool) (w : World) (HW : Hid (WnC w b off n F)) (hjn : j < n) (hn : n ≤ 1000000) :
    Calls Try.prog 74 #[.agg (trA (vwA b off n cap r g m) I tp fw), .int .i64 j] w fun e w' => e = .returned (.bool (barB I.op (F j).op (F j).i)) ∧ Below w.heap.size w w' := by
  obtain ⟨TA, hTA⟩ : ∃ TA, TA = trA (vwA b off n cap r g m) I tp fw := ⟨_, rfl⟩
  rw [← hTA]
  have HTA := Lib.hid hTA
  clear hTA
  have hta0 : TA[0]? = some (.slice (some ⟨b, off, none⟩) n cap) := by rw [HTA.out]; exact trA_0 _ _ _ _ _ _ _ _ _ _
  have HTA0 := Lib.hid hta0
  clear hta0
  have HB : Hid (rowAt (w.alloc (.cells TA 136)) w.heap.size = some TA) := Lib.hid (rowAt_new _ _ _)
  have HL : Hid (Below w.heap.size w (w.alloc (.cells TA 136))) := Lib.hid ((Below.refl _ _).alloc (Nat.le_refl _) _)
  go_enter Try.func74, Try.ntmps74
  go_upto_region 1 with (fail)
  generalize (w.alloc (.cells TA 136)) = wU at HB HL ⊢
  go_cut [5, 6] from 7 to 15 (fun s5 s6 wx => ∃ b5 b6, s5 = .pointer (some ⟨b5, 0, none⟩) ∧ s6 = .pointer (some ⟨b6, 0, none⟩) ∧ rowAt wx b5 = some #[.int .i64 I.op, .int .i64 I.d, .int .i64 I.n, .int .i64 I.m, .int .i64 I.a, .int .i64 I.c, .int .i64 I.i] ∧ rowAt wx b6 = some #[.int .i64 (F j).op, .int .i64 (F j).d, .int .i64 (F j).n, .int .i64 (F j).m, .int .i64 (F j).a, .int .i64 (F j).c, .int .i64 (F j).i] ∧ rowAt wx w.heap.size = some TA ∧ Below w.heap.size w wx)
  case first =>
    have hT0 : rowAt wU.drew w.heap.size = some TA := HB.out
    have hL0 : Below w.heap.size w wU.drew := HL.out.drew
    have hW0 : WnC wU.drew b off n F := HW.out.below hL0
    have hc0 : wU.drew.cell? ⟨w.heap.size, 0, none⟩ = some (.slice (some ⟨b, off, none⟩) n cap) := (rowAt_cell hT0 0).trans HTA0.out
    have hlI : ∀ w', rowAt w' w.heap.size = some TA → (ldAt 29 (.pointer (some ⟨w.heap.size, 38, none⟩))).run Try.prog w' = .ok (.agg #[.int .i64 I.op, .int .i64 I.d, .int .i64 I.n, .int .i64 I.m, .int .i64 I.a, .int .i64 I.c, .int .i64 I.i]) w' := fun w' h => by rw [HTA.out] at h; exact tr_ins h
    have hlJ : ∀ w', WnC w' b off n F → (ldAt 29 (.pointer (some ⟨b, off + j * 46 + 1, none⟩))).run Try.prog w' = .ok (.agg #[.int .i64 (F j).op, .int .i64 (F j).d, .int .i64 (F j).n, .int .i64 (F j).m, .int .i64 (F j).a, .int .i64 (F j).c, .int .i64 (F j).i]) w' := fun w' h => h.loadIns j hjn
    have hlt := rowAt_lt hT0
    refine wp_region_held_drew (S := fun w' => w'.cell? ⟨w.heap.size, 0, none⟩ = some (.slice (some ⟨b, off, none⟩) n cap) ∧ rowAt w' w.heap.size = some TA ∧ WnC w' b off n F) (by kernel_rfl) ⟨hc0, hT0, hW0⟩ (fun hHeld => ?_)
    generalize wU.drew = V at hc0 hT0 hW0 hL0 hHeld hlt ⊢
    refine wpAnyH_take (i := 0) (oi := { dst := some 7, op := Go.Op.fieldAddr 136 (Go.Operand.tmp 2) 1, type := 0, pos := "may.go:57", after := #[], guard := none }) (v := ?_) rfl (by kernel_rfl) (by kernel_rfl) (by kernel_rfl) (fun _ _ _ h => h) (Or.inl ⟨by rfl, ?_⟩) (by assumption) ?_
    rotate_left
    · (intro w0 hSw; (try dsimp only at hSw); go_split_ands; go_simp; with_reducible rfl)
    try simp only [Act.put, List.setIfInBounds_toArray, List.set_cons_zero, List.set_cons_succ]
    refine wpAnyH_take (i := 1) (oi := { dst := some 8, op := Go.Op.load 29 (Go.Operand.tmp 7), type := 29, pos := "may.go:57", after := #[{ on := 0, ground := Go.Ground.data }], guard := none }) (v := ?_) rfl (by kernel_rfl) (by kernel_rfl) (by kernel_rfl) (fun _ _ _ h => h) (Or.inl ⟨by rfl, ?_⟩) (by assumption) ?_
    rotate_left
    · (intro w0 hSw; (try dsimp only at hSw); go_split_ands; go_simp; with_reducible rfl)
    try simp only [Act.put, List.setIfInBounds_toArray, List.set_cons_zero, List.set_cons_succ]
    refine wpAnyH_take (i := 2) (oi := { dst := some 9, op := Go.Op.fieldAddr 136 (Go.Operand.tmp 2) 0, type := 0, pos := "may.go:57", after := #[{ on := 11, ground := Go.Ground.gcOnly Go.Departure.lateStores }], guard := none }) (v := ?_) rfl (by kernel_rfl) (by kernel_rfl) (by kernel_rfl) (fun _ _ _ h => h) (Or.inl ⟨by rfl, ?_⟩) (by assumption) ?_
    rotate_left
    · (intro w0 hSw; (try dsimp only at hSw); go_split_ands; go_simp; with_reducible rfl)
    try simp only [Act.put, List.setIfInBounds_toArray, List.set_cons_zero, List.set_cons_succ]
    refine wpAnyH_take (i := 3) (oi := { dst := some 10, op := Go.Op.fieldAddr 126 (Go.Operand.tmp 9) 0, type := 0, pos := "may.go:57", after := #[{ on := 2, ground := Go.Ground.data }, { on := 11, ground := Go.Ground.gcOnly Go.Departure.lateStores }], guard := none }) (v := ?_) rfl (by kernel_rfl) (by kernel_rfl) (by kernel_rfl) (fun _ _ _ h => h) (Or.inl ⟨by rfl, ?_⟩) (by assumption) ?_
    rotate_left
    · (intro w0 hSw; (try dsimp only at hSw); go_split_ands; go_simp; with_reducible rfl)
    try simp only [Act.put, List.setIfInBounds_toArray, List.set_cons_zero, List.set_cons_succ]
    refine wpAnyH_take (i := 4) (oi := { dst := some 11, op := Go.Op.load 22 (Go.Operand.tmp 10), type := 22, pos := "may.go:57", after := #[{ on := 3, ground := Go.Ground.data }, { on := 11, ground := Go.Ground.gcOnly Go.Departure.lateStores }], guard := none }) (v := ?_) rfl (by kernel_rfl) (by kernel_rfl) (by kernel_rfl) (fun _ _ _ h => h) (Or.inl ⟨by rfl, ?_⟩) (by assumption) ?_
    rotate_left
    · (intro w0 hSw; (try dsimp only at hSw); go_split_ands; go_simp; with_reducible rfl)
    try simp only [Act.put, List.setIfInBounds_toArray, List.set_cons_zero, List.set_cons_succ]
    refine wpAnyH_take (i := 5) (oi := { dst := some 12, op := Go.Op.move (Go.Operand.tmp 1), type := 3, pos := "may.go:57", after := #[{ on := 11, ground := Go.Ground.gcOnly Go.Departure.lateStores }], guard := none }) (v := ?_) rfl (by kernel_rfl) (by kernel_rfl) (by kernel_rfl) (fun _ _ _ h => h) (Or.inl ⟨by rfl, ?_⟩) (by assumption) ?_
    rotate_left
    · (intro w0 hSw; (try dsimp only at hSw); go_split_ands; go_simp; with_reducible rfl)
    try simp only [Act.put, List.setIfInBounds_toArray, List.set_cons_zero, List.set_cons_succ]
    refine wpAnyH_take (i := 6) (oi := { dst := some 13, op := Go.Op.indexAddr 22 (Go.Operand.tmp 11) (Go.Operand.tmp 12), type := 0, pos := "may.go:57", after := #[{ on := 4, ground := Go.Ground.data }, { on := 5, ground := Go.Ground.data }, { on := 11, ground := Go.Ground.gcOnly Go.Departure.lateStores }], guard := none }) (v := ?_) rfl (by kernel_rfl) (by kernel_rfl) (by kernel_rfl) (fun _ _ _ h => h) (Or.inl ⟨by rfl, ?_⟩) (by assumption) ?_
    rotate_left
    · (intro w0 hSw; (try dsimp only at hSw); go_split_ands; go_simp; with_reducible rfl)
    try simp only [Act.put, List.setIfInBounds_toArray, List.set_cons_zero, List.set_cons_succ]
    refine wpAnyH_take (i := 7) (oi := { dst := some 14, op := Go.Op.fieldAddr 31 (Go.Operand.tmp 13) 1, type := 0, pos := "may.go:57", after := #[{ on := 6, ground := Go.Ground.data }, { on := 11, ground := Go.Ground.gcOnly Go.Departure.lateStores }], guard := none }) (v := ?_) rfl (by kernel_rfl) (by kernel_rfl) (by kernel_rfl) (fun _ _ _ h => h) (Or.inl ⟨by rfl, ?_⟩) (by assumption) ?_
    rotate_left
    · (intro w0 hSw; (try dsimp only at hSw); go_split_ands; go_simp; with_reducible rfl)
    try simp only [Act.put, List.setIfInBounds_toArray, List.set_cons_zero, List.set_cons_succ]
    refine wpAnyH_take (i := 8) (oi := { dst := some 15, op := Go.Op.load 29 (Go.Operand.tmp 14), type := 29, pos := "may.go:57", after := #[{ on := 7, ground := Go.Ground.data }, { on := 11, ground := Go.Ground.gcOnly Go.Departure.lateStores }], guard := none }) (v := ?_) rfl (by kernel_rfl) (by kernel_rfl) (by kernel_rfl) (fun _ _ _ h => h) (Or.inl ⟨by rfl, ?_⟩) (by assumption) ?_
    rotate_left
    · (intro w0 hSw; (try dsimp only at hSw); go_split_ands; go_simp; with_reducible rfl)
    try simp only [Act.put, List.setIfInBounds_toArray, List.set_cons_zero, List.set_cons_succ]
    refine wpAnyH_ready (rs := [9, 10]) (by kernel_rfl) (by simp) ?_
    refine AllReadyH.cons (o := { dst := some 5, op := Go.Op.alloc 29, type := 0, pos := "may.go:57", after := #[], guard := none }) rfl (fun K hK => ?_) ?_
    · go_simp
      have hy1 : rowAt (V.alloc (.cells #[.int .i64 0, .int .i64 0, .int .i64 0, .int .i64 0, .int .i64 0, .int .i64 0, .int .i64 0] 29)) V.heap.size = some #[.int .i64 0, .int .i64 0, .int .i64 0, .int .i64 0, .int .i64 0, .int .i64 0, .int .i64 0] := rowAt_new _ _ _
      have hT1 := rowAt_past hT0 (.cells #[.int .i64 0, .int .i64 0, .int .i64 0, .int .i64 0, .int .i64 0, .int .i64 0, .int .i64 0] 29)
      have hW1 := hW0.below ((Below.refl V.heap.size V).alloc (Nat.le_refl _) (.cells #[.int .i64 0, .int .i64 0, .int .i64 0, .int .i64 0, .int .i64 0, .int .i64 0, .int .i64 0] 29))
      have hL1 := hL0.alloc hL0.size (.cells #[.int .i64 0, .int .i64 0, .int .i64 0, .int .i64 0, .int .i64 0, .int .i64 0, .int .i64 0] 29)
      have hc1 : (V.alloc (.cells #[.int .i64 0, .int .i64 0, .int .i64 0, .int .i64 0, .int .i64 0, .int .i64 0, .int .i64 0] 29)).cell? ⟨w.heap.size, 0, none⟩ = some (.slice (some ⟨b, off, none⟩) n cap) := (rowAt_cell hT1 0).trans HTA0.out
      refine hK.out _ _ ⟨hc1, hT1, hW1⟩ (fun hHeld => ?_)
      clear hK K
      try simp only [Act.put, List.setIfInBounds_toArray, List.set_cons_zero, List.set_cons_succ]
      refine wpAnyH_ready (rs := [10]) (by kernel_rfl) (by simp) ?_
      refine AllReadyH.cons (o := { dst := some 6, op := Go.Op.alloc 29, type := 0, pos := "may.go:57", after := #[], guard := none }) rfl (fun K hK => ?_) AllReadyH.nil
      go_simp
      have hsz : (V.alloc (.cells #[.int .i64 0, .int .i64 0, .int .i64 0, .int .i64 0, .int .i64 0, .int .i64 0, .int .i64 0] 29)).heap.size = V.heap.size + 1 := by simp
      have hy2 : rowAt ((V.alloc (.cells #[.int .i64 0, .int .i64 0, .int .i64 0, .int .i64 0, .int .i64 0, .int .i64 0, .int .i64 0] 29)).alloc (.cells #[.int .i64 0, .int .i64 0, .int .i64 0, .int .i64 0, .int .i64 0, .int .i64 0, .int .i64 0] 29)) (V.alloc (.cells #[.int .i64 0, .int .i64 0, .int .i64 0, .int .i64 0, .int .i64 0, .int .i64 0, .int .i64 0] 29)).heap.size = some #[.int .i64 0, .int .i64 0, .int .i64 0, .int .i64 0, .int .i64 0, .int .i64 0, .int .i64 0] := rowAt_new _ _ _
      rw [hsz] at hy2
      replace hy1 := rowAt_past hy1 (.cells #[.int .i64 0, .int .i64 0, .int .i64 0, .int .i64 0, .int .i64 0, .int .i64 0, .int .i64 0] 29)
      replace hT1 := rowAt_past hT1 (.cells #[.int .i64 0, .int .i64 0, .int .i64 0, .int .i64 0, .int .i64 0, .int .i64 0, .int .i64 0] 29)
      replace hW1 := hW1.below ((Below.refl _ (V.alloc (.cells #[.int .i64 0, .int .i64 0, .int .i64 0, .int .i64 0, .int .i64 0, .int .i64 0, .int .i64 0] 29))).alloc (Nat.le_refl _) (.cells #[.int .i64 0, .int .i64 0, .int .i64 0, .int .i64 0, .int .i64 0, .int .i64 0, .int .i64 0] 29))
      replace hL1 := hL1.alloc hL1.size (.cells #[.int .i64 0, .int .i64 0, .int .i64 0, .int .i64 0, .int .i64 0, .int .i64 0, .int .i64 0] 29)
      have hc2 : ((V.alloc (.cells #[.int .i64 0, .int .i64 0, .int .i64 0, .int .i64 0, .int .i64 0, .int .i64 0, .int .i64 0] 29)).alloc (.cells #[.int .i64 0, .int .i64 0, .int .i64 0, .int .i64 0, .int .i64 0, .int .i64 0, .int .i64 0] 29)).cell? ⟨w.heap.size, 0, none⟩ = some (.slice (some ⟨b, off, none⟩) n cap) := (rowAt_cell hT1 0).trans HTA0.out
      refine hK.out _ _ ⟨hc2, hT1, hW1⟩ (fun hHeld => ?_)
      clear hK K
      try simp only [Act.put, List.setIfInBounds_toArray, List.set_cons_zero, List.set_cons_succ]
      refine wpAnyH_ready (rs := [11]) (by kernel_rfl) (by simp) ?_
      refine AllReadyH.cons (o := { dst := none, op := Go.Op.store 29 (Go.Operand.tmp 5) (Go.Operand.tmp 8), type := 0, pos := "may.go:57", after := #[{ on := 9, ground := Go.Ground.data }, { on := 1, ground := Go.Ground.data }, { on := 0, ground := Go.Ground.phase }, { on := 1, ground := Go.Ground.phase }, { on := 2, ground := Go.Ground.textOnly Go.Departure.lateStores }, { on := 3, ground := Go.Ground.textOnly Go.Departure.lateStores }, { on := 4, ground := Go.Ground.textOnly Go.Departure.lateStores }, { on := 5, ground := Go.Ground.textOnly Go.Departure.lateStores }, { on := 6, ground := Go.Ground.textOnly Go.Departure.lateStores }, { on := 7, ground := Go.Ground.textOnly Go.Departure.lateStores }, { on := 8, ground := Go.Ground.textOnly Go.Departure.lateStores }, { on := 9, ground := Go.Ground.phase }, { on := 10, ground := Go.Ground.phase }], guard := none }) rfl (fun K hK => ?_) AllReadyH.nil
      have hs := st_ins (w := ((V.alloc (.cells #[.int .i64 0, .int .i64 0, .int .i64 0, .int .i64 0, .int .i64 0, .int .i64 0, .int .i64 0] 29)).alloc (.cells #[.int .i64 0, .int .i64 0, .int .i64 0, .int .i64 0, .int .i64 0, .int .i64 0, .int .i64 0] 29))) (x := V.heap.size) (C := #[.int .i64 0, .int .i64 0, .int .i64 0, .int .i64 0, .int .i64 0, .int .i64 0, .int .i64 0]) (D := #[.int .i64 I.op, .int .i64 I.d, .int .i64 I.n, .int .i64 I.m, .int .i64 I.a, .int .i64 I.c, .int .i64 I.i]) hy1 rfl rfl (by simp [Value.oneCell'])
      go_simp
      have hR5 := setCells_all (D := #[.int .i64 I.op, .int .i64 I.d, .int .i64 I.n, .int .i64 I.m, .int .i64 I.a, .int .i64 I.c, .int .i64 I.i]) hy1 rfl
      have hg5 := setCells_grown (#[.int .i64 I.op, .int .i64 I.d, .int .i64 I.n, .int .i64 I.m, .int .i64 I.a, .int .i64 I.c, .int .i64 I.i] : Array Value).toList 0 ((V.alloc (.cells #[.int .i64 0, .int .i64 0, .int .i64 0, .int .i64 0, .int .i64 0, .int .i64 0, .int .i64 0] 29)).alloc (.cells #[.int .i64 0, .int .i64 0, .int .i64 0, .int .i64 0, .int .i64 0, .int .i64 0, .int .i64 0] 29)) (V.heap.size)
      have hR6 := rowAt_grown hy2 hg5 (by omega)
      have hT5 := rowAt_grown hT1 hg5 (by omega)
      have hL5 := grown_below hL1 hg5 (by omega)
      have hW5 : WnC _ b off n F := HW.out.below hL5
      refine hK.out _ _ ⟨(rowAt_cell hT5 0).trans HTA0.out, hT5, hW5⟩ (fun hHeld => ?_)
      clear hK K
      try simp only [Act.put, List.setIfInBounds_toArray, List.set_cons_zero, List.set_cons_succ]
      clear hs
      refine wpAnyH_ready (rs := [12]) (by kernel_rfl) (by simp) ?_
      refine AllReadyH.cons (o := { dst := none, op := Go.Op.store 29 (Go.Operand.tmp 6) (Go.Operand.tmp 15), type := 0, pos := "may.go:57", after := #[{ on := 10, ground := Go.Ground.data }, { on := 8, ground := Go.Ground.data }, { on := 11, ground := Go.Ground.chain }, { on := 0, ground := Go.Ground.phase }, { on := 1, ground := Go.Ground.phase }, { on := 2, ground := Go.Ground.phase }, { on := 3, ground := Go.Ground.phase }, { on := 4, ground := Go.Ground.phase }, { on := 5, ground := Go.Ground.phase }, { on := 6, ground := Go.Ground.phase }, { on := 7, ground := Go.Ground.phase }, { on := 8, ground := Go.Ground.phase }, { on := 9, ground := Go.Ground.phase }, { on := 10, ground := Go.Ground.phase }, { on := 11, ground := Go.Ground.phase }], guard := none }) rfl (fun K hK => ?_) AllReadyH.nil
      have hs := st_ins (x := V.heap.size + 1) (C := #[.int .i64 0, .int .i64 0, .int .i64 0, .int .i64 0, .int .i64 0, .int .i64 0, .int .i64 0]) (D := #[.int .i64 (F j).op, .int .i64 (F j).d, .int .i64 (F j).n, .int .i64 (F j).m, .int .i64 (F j).a, .int .i64 (F j).c, .int .i64 (F j).i]) hR6 rfl rfl (by simp [Value.oneCell'])
      go_simp
      have hR6' := setCells_all (D := #[.int .i64 (F j).op, .int .i64 (F j).d, .int .i64 (F j).n, .int .i64 (F j).m, .int .i64 (F j).a, .int .i64 (F j).c, .int .i64 (F j).i]) hR6 rfl
      have hg6 := setCells_grown (#[.int .i64 (F j).op, .int .i64 (F j).d, .int .i64 (F j).n, .int .i64 (F j).m, .int .i64 (F j).a, .int .i64 (F j).c, .int .i64 (F j).i] : Array Value).toList 0 (((V.alloc (.cells #[.int .i64 0, .int .i64 0, .int .i64 0, .int .i64 0, .int .i64 0, .int .i64 0, .int .i64 0] 29)).alloc (.cells #[.int .i64 0, .int .i64 0, .int .i64 0, .int .i64 0, .int .i64 0, .int .i64 0, .int .i64 0] 29)).setCells (V.heap.size) 0 (#[.int .i64 I.op, .int .i64 I.d, .int .i64 I.n, .int .i64 I.m, .int .i64 I.a, .int .i64 I.c, .int .i64 I.i] : Array Value).toList) (V.heap.size + 1)
      have hR5' := rowAt_grown hR5 hg6 (by omega)
      have hT6 := rowAt_grown hT5 hg6 (by omega)
      have hL6 := grown_below hL5 hg6 (by omega)
      have hW6 : WnC _ b off n F := HW.out.below hL6
      refine hK.out _ _ ⟨(rowAt_cell hT6 0).trans HTA0.out, hT6, hW6⟩ (fun hHeld => ?_)
      clear hK K
      try simp only [Act.put, List.setIfInBounds_toArray, List.set_cons_zero, List.set_cons_succ]
      refine wpAnyH_done (by kernel_rfl) ?_ _
      clear hHeld
      go_wp2_with fail
      go_meet
      case rel => exact ⟨V.heap.size, V.heap.size + 1, rfl, rfl, hR5', hR6', hT6, hL6⟩
    · refine AllReadyH.cons (o := { dst := some 6, op := Go.Op.alloc 29, type := 0, pos := "may.go:57", after := #[], guard := none }) rfl (fun K hK => ?_) AllReadyH.nil
      go_simp
      have hy1 : rowAt (V.alloc (.cells #[.int .i64 0, .int .i64 0, .int .i64 0, .int .i64 0, .int .i64 0, .int .i64 0, .int .i64 0] 29)) V.heap.size = some #[.int .i64 0, .int .i64 0, .int .i64 0, .int .i64 0, .int .i64 0, .int .i64 0, .int .i64 0] := rowAt_new _ _ _
      have hT1 := rowAt_past hT0 (.cells #[.int .i64 0, .int .i64 0, .int .i64 0, .int .i64 0, .int .i64 0, .int .i64 0, .int .i64 0] 29)
      have hW1 := hW0.below ((Below.refl V.heap.size V).alloc (Nat.le_refl _) (.cells #[.int .i64 0, .int .i64 0, .int .i64 0, .int .i64 0, .int .i64 0, .int .i64 0, .int .i64 0] 29))
      have hL1 := hL0.alloc hL0.size (.cells #[.int .i64 0, .int .i64 0, .int .i64 0, .int .i64 0, .int .i64 0, .int .i64 0, .int .i64 0] 29)
      have hc1 : (V.alloc (.cells #[.int .i64 0, .int .i64 0, .int .i64 0, .int .i64 0, .int .i64 0, .int .i64 0, .int .i64 0] 29)).cell? ⟨w.heap.size, 0, none⟩ = some (.slice (some ⟨b, off, none⟩) n cap) := (rowAt_cell hT1 0).trans HTA0.out
      refine hK.out _ _ ⟨hc1, hT1, hW1⟩ (fun hHeld => ?_)
      clear hK K
      try simp only [Act.put, List.setIfInBounds_toArray, List.set_cons_zero, List.set_cons_succ]
      refine wpAnyH_ready (rs := [9]) (by kernel_rfl) (by simp) ?_
      refine AllReadyH.cons (o := { dst := some 5, op := Go.Op.alloc 29, type := 0, pos := "may.go:57", after := #[], guard := none }) rfl (fun K hK => ?_) AllReadyH.nil
      go_simp
      have hsz : (V.alloc (.cells #[.int .i64 0, .int .i64 0, .int .i64 0, .int .i64 0, .int .i64 0, .int .i64 0, .int .i64 0] 29)).heap.size = V.heap.size + 1 := by simp
      have hy2 : rowAt ((V.alloc (.cells #[.int .i64 0, .int .i64 0, .int .i64 0, .int .i64 0, .int .i64 0, .int .i64 0, .int .i64 0] 29)).alloc (.cells #[.int .i64 0, .int .i64 0, .int .i64 0, .int .i64 0, .int .i64 0, .int .i64 0, .int .i64 0] 29)) (V.alloc (.cells #[.int .i64 0, .int .i64 0, .int .i64 0, .int .i64 0, .int .i64 0, .int .i64 0, .int .i64 0] 29)).heap.size = some #[.int .i64 0, .int .i64 0, .int .i64 0, .int .i64 0, .int .i64 0, .int .i64 0, .int .i64 0] := rowAt_new _ _ _
      rw [hsz] at hy2
      replace hy1 := rowAt_past hy1 (.cells #[.int .i64 0, .int .i64 0, .int .i64 0, .int .i64 0, .int .i64 0, .int .i64 0, .int .i64 0] 29)
      replace hT1 := rowAt_past hT1 (.cells #[.int .i64 0, .int .i64 0, .int .i64 0, .int .i64 0, .int .i64 0, .int .i64 0, .int .i64 0] 29)
      replace hW1 := hW1.below ((Below.refl _ (V.alloc (.cells #[.int .i64 0, .int .i64 0, .int .i64 0, .int .i64 0, .int .i64 0, .int .i64 0, .int .i64 0] 29))).alloc (Nat.le_refl _) (.cells #[.int .i64 0, .int .i64 0, .int .i64 0, .int .i64 0, .int .i64 0, .int .i64 0, .int .i64 0] 29))
      replace hL1 := hL1.alloc hL1.size (.cells #[.int .i64 0, .int .i64 0, .int .i64 0, .int .i64 0, .int .i64 0, .int .i64 0, .int .i64 0] 29)
      have hc2 : ((V.alloc (.cells #[.int .i64 0, .int .i64 0, .int .i64 0, .int .i64 0, .int .i64 0, .int .i64 0, .int .i64 0] 29)).alloc (.cells #[.int .i64 0, .int .i64 0, .int .i64 0, .int .i64 0, .int .i64 0, .int .i64 0, .int .i64 0] 29)).cell? ⟨w.heap.size, 0, none⟩ = some (.slice (some ⟨b, off, none⟩) n cap) := (rowAt_cell hT1 0).trans HTA0.out
      refine hK.out _ _ ⟨hc2, hT1, hW1⟩ (fun hHeld => ?_)
      clear hK K
      try simp only [Act.put, List.setIfInBounds_toArray, List.set_cons_zero, List.set_cons_succ]
      refine wpAnyH_ready (rs := [11]) (by kernel_rfl) (by simp) ?_
      refine AllReadyH.cons (o := { dst := none, op := Go.Op.store 29 (Go.Operand.tmp 5) (Go.Operand.tmp 8), type := 0, pos := "may.go:57", after := #[{ on := 9, ground := Go.Ground.data }, { on := 1, ground := Go.Ground.data }, { on := 0, ground := Go.Ground.phase }, { on := 1, ground := Go.Ground.phase }, { on := 2, ground := Go.Ground.textOnly Go.Departure.lateStores }, { on := 3, ground := Go.Ground.textOnly Go.Departure.lateStores }, { on := 4, ground := Go.Ground.textOnly Go.Departure.lateStores }, { on := 5, ground := Go.Ground.textOnly Go.Departure.lateStores }, { on := 6, ground := Go.Ground.textOnly Go.Departure.lateStores }, { on := 7, ground := Go.Ground.textOnly Go.Departure.lateStores }, { on := 8, ground := Go.Ground.textOnly Go.Departure.lateStores }, { on := 9, ground := Go.Ground.phase }, { on := 10, ground := Go.Ground.phase }], guard := none }) rfl (fun K hK => ?_) AllReadyH.nil
      have hs := st_ins (w := ((V.alloc (.cells #[.int .i64 0, .int .i64 0, .int .i64 0, .int .i64 0, .int .i64 0, .int .i64 0, .int .i64 0] 29)).alloc (.cells #[.int .i64 0, .int .i64 0, .int .i64 0, .int .i64 0, .int .i64 0, .int .i64 0, .int .i64 0] 29))) (x := V.heap.size + 1) (C := #[.int .i64 0, .int .i64 0, .int .i64 0, .int .i64 0, .int .i64 0, .int .i64 0, .int .i64 0]) (D := #[.int .i64 I.op, .int .i64 I.d, .int .i64 I.n, .int .i64 I.m, .int .i64 I.a, .int .i64 I.c, .int .i64 I.i]) hy2 rfl rfl (by simp [Value.oneCell'])
      go_simp
      have hR5 := setCells_all (D := #[.int .i64 I.op, .int .i64 I.d, .int .i64 I.n, .int .i64 I.m, .int .i64 I.a, .int .i64 I.c, .int .i64 I.i]) hy2 rfl
      have hg5 := setCells_grown (#[.int .i64 I.op, .int .i64 I.d, .int .i64 I.n, .int .i64 I.m, .int .i64 I.a, .int .i64 I.c, .int .i64 I.i] : Array Value).toList 0 ((V.alloc (.cells #[.int .i64 0, .int .i64 0, .int .i64 0, .int .i64 0, .int .i64 0, .int .i64 0, .int .i64 0] 29)).alloc (.cells #[.int .i64 0, .int .i64 0, .int .i64 0, .int .i64 0, .int .i64 0, .int .i64 0, .int .i64 0] 29)) (V.heap.size + 1)
      have hR6 := rowAt_grown hy1 hg5 (by omega)
      have hT5 := rowAt_grown hT1 hg5 (by omega)
      have hL5 := grown_below hL1 hg5 (by omega)
      have hW5 : WnC _ b off n F := HW.out.below hL5
      refine hK.out _ _ ⟨(rowAt_cell hT5 0).trans HTA0.out, hT5, hW5⟩ (fun hHeld => ?_)
      clear hK K
      try simp only [Act.put, List.setIfInBounds_toArray, List.set_cons_zero, List.set_cons_succ]
      clear hs
      refine wpAnyH_ready (rs := [12]) (by kernel_rfl) (by simp) ?_
      refine AllReadyH.cons (o := { dst := none, op := Go.Op.store 29 (Go.Operand.tmp 6) (Go.Operand.tmp 15), type := 0, pos := "may.go:57", after := #[{ on := 10, ground := Go.Ground.data }, { on := 8, ground := Go.Ground.data }, { on := 11, ground := Go.Ground.chain }, { on := 0, ground := Go.Ground.phase }, { on := 1, ground := Go.Ground.phase }, { on := 2, ground := Go.Ground.phase }, { on := 3, ground := Go.Ground.phase }, { on := 4, ground := Go.Ground.phase }, { on := 5, ground := Go.Ground.phase }, { on := 6, ground := Go.Ground.phase }, { on := 7, ground := Go.Ground.phase }, { on := 8, ground := Go.Ground.phase }, { on := 9, ground := Go.Ground.phase }, { on := 10, ground := Go.Ground.phase }, { on := 11, ground := Go.Ground.phase }], guard := none }) rfl (fun K hK => ?_) AllReadyH.nil
      have hs := st_ins (x := V.heap.size) (C := #[.int .i64 0, .int .i64 0, .int .i64 0, .int .i64 0, .int .i64 0, .int .i64 0, .int .i64 0]) (D := #[.int .i64 (F j).op, .int .i64 (F j).d, .int .i64 (F j).n, .int .i64 (F j).m, .int .i64 (F j).a, .int .i64 (F j).c, .int .i64 (F j).i]) hR6 rfl rfl (by simp [Value.oneCell'])
      go_simp
      have hR6' := setCells_all (D := #[.int .i64 (F j).op, .int .i64 (F j).d, .int .i64 (F j).n, .int .i64 (F j).m, .int .i64 (F j).a, .int .i64 (F j).c, .int .i64 (F j).i]) hR6 rfl
      have hg6 := setCells_grown (#[.int .i64 (F j).op, .int .i64 (F j).d, .int .i64 (F j).n, .int .i64 (F j).m, .int .i64 (F j).a, .int .i64 (F j).c, .int .i64 (F j).i] : Array Value).toList 0 (((V.alloc (.cells #[.int .i64 0, .int .i64 0, .int .i64 0, .int .i64 0, .int .i64 0, .int .i64 0, .int .i64 0] 29)).alloc (.cells #[.int .i64 0, .int .i64 0, .int .i64 0, .int .i64 0, .int .i64 0, .int .i64 0, .int .i64 0] 29)).setCells (V.heap.size + 1) 0 (#[.int .i64 I.op, .int .i64 I.d, .int .i64 I.n, .int .i64 I.m, .int .i64 I.a, .int .i64 I.c, .int .i64 I.i] : Array Value).toList) (V.heap.size)
      have hR5' := rowAt_grown hR5 hg6 (by omega)
      have hT6 := rowAt_grown hT5 hg6 (by omega)
      have hL6 := grown_below hL5 hg6 (by omega)
      have hW6 : WnC _ b off n F := HW.out.below hL6
      refine hK.out _ _ ⟨(rowAt_cell hT6 0).trans HTA0.out, hT6, hW6⟩ (fun hHeld => ?_)
      clear hK K
      try simp only [Act.put, List.setIfInBounds_toArray, List.set_cons_zero, List.set_cons_succ]
      refine wpAnyH_done (by kernel_rfl) ?_ _
      clear hHeld
      go_wp2_with fail
      go_meet
      case rel => exact ⟨V.heap.size + 1, V.heap.size, rfl, rfl, hR5', hR6', hT6, hL6⟩
  case rest =>
    obtain ⟨b5, b6, hs5, hs6, hR5, hR6, hT6, hL6⟩ := hcut
    subst hs5
    subst hs6
    have HL6 := Lib.hid hL6
    have HR5 := Lib.hid hR5
    have HR6 := Lib.hid hR6
    have q5 : wc.cell? ⟨b5, 0, none⟩ = some _ := rowAt_cell hR5 0
    have q6 : wc.cell? ⟨b6, 0, none⟩ = some _ := rowAt_cell hR6 0
    have p5 : wc.cell? ⟨b5, 6, none⟩ = some _ := rowAt_cell hR5 6
    have p6 : wc.cell? ⟨b6, 6, none⟩ = some _ := rowAt_cell hR6 6
    clear hL6 hR5 hR6 hT6 HB HL HW HTA HTA0
    have HM := Lib.hid (memory_c I.op)
    have HST := Lib.hid (store_c I.op)
    by_cases h39 : (F j).op = 39
    · have e39 : ((F j).op == 39) = true := by simpa using h39
      have HV : Hid (barB I.op (F j).op (F j).i = true) := Lib.hid (by unfold barB; rw [if_pos h39])
      go_wp2
      go_ret
      exact ⟨by rw [HV.out]; rfl, HL6.out⟩
    · have e39 : ((F j).op == 39) = false := by simpa using h39
      by_cases h38 : (F j).op = 38
      · have e38 : ((F j).op == 38) = true := by simpa using h38
        by_cases i40 : I.op = 40
        · have g40 : (I.op == 40) = true := by simpa using i40
          have HV : Hid (barB I.op (F j).op (F j).i = true) := Lib.hid (by unfold barB; rw [if_neg h39, if_pos h38, i40]; rfl)
          go_wp2
          go_ret
          exact ⟨by rw [HV.out]; rfl, HL6.out⟩
        have g40 : (I.op == 40) = false := by simpa using i40
        by_cases i41 : I.op = 41
        · have g41 : (I.op == 41) = true := by simpa using i41
          have HV : Hid (barB I.op (F j).op (F j).i = true) := Lib.hid (by unfold barB; rw [if_neg h39, if_pos h38, i41]; rfl)
          go_wp2
          go_ret
          exact ⟨by rw [HV.out]; rfl, HL6.out⟩
        have g41 : (I.op == 41) = false := by simpa using i41
        by_cases i37 : I.op = 37
        · have g37 : (I.op == 37) = true := by simpa using i37
          have HV : Hid (barB I.op (F j).op (F j).i = true) := Lib.hid (by unfold barB; rw [if_neg h39, if_pos h38, i37]; rfl)
          go_wp2
          go_ret
          exact ⟨by rw [HV.out]; rfl, HL6.out⟩
        have g37 : (I.op == 37) = false := by simpa using i37
        by_cases i38 : I.op = 38
        · have g38 : (I.op == 38) = true := by simpa using i38
          have HV : Hid (barB I.op (F j).op (F j).i = true) := Lib.hid (by unfold barB; rw [if_neg h39, if_pos h38, i38]; rfl)
          go_wp2
          go_ret
          exact ⟨by rw [HV.out]; rfl, HL6.out⟩
        have g38 : (I.op == 38) = false := by simpa using i38
        by_cases i39 : I.op = 39
        · have g39 : (I.op == 39) = true := by simpa using i39
          have HV : Hid (barB I.op (F j).op (F j).i = true) := Lib.hid (by unfold barB; rw [if_neg h39, if_pos h38, i39]; rfl)
          go_wp2
          go_ret
          exact ⟨by rw [HV.out]; rfl, HL6.out⟩
        have g39 : (I.op == 39) = false := by simpa using i39
        by_cases i42 : I.op = 42
        · have g42 : (I.op == 42) = true := by simpa using i42
          have HV : Hid (barB I.op (F j).op (F j).i = true) := Lib.hid (by unfold barB; rw [if_neg h39, if_pos h38, i42]; rfl)
          go_wp2
          go_ret
          exact ⟨by rw [HV.out]; rfl, HL6.out⟩
        have g42 : (I.op == 42) = false := by simpa using i42
        have HV : Hid (barB I.op (F j).op (F j).i = memB I.op) := Lib.hid (by unfold barB; rw [if_neg h39, if_pos h38, g40, g41, g37, g38, g39, g42]; rfl)
        go_wp2_with (first | (go_at_call 154; refine (HM.out _).mono ?_; rintro e w' ⟨rfl, rfl⟩))
        go_ret
        exact ⟨by rw [HV.out]; rfl, HL6.out⟩
      · have e38 : ((F j).op == 38) = false := by simpa using h38
        by_cases h37 : (F j).op = 37
        · have e37 : ((F j).op == 37) = true := by simpa using h37
          cases hm : memB I.op
          · rw [hm] at HM
            have HV : Hid (barB I.op (F j).op (F j).i = false) := Lib.hid (by unfold barB; rw [if_neg h39, if_neg h38, if_pos h37, hm]; rfl)
            clear hm
            go_wp2_with (first | (go_at_call 154; refine (HM.out _).mono ?_; rintro e w' ⟨rfl, rfl⟩))
            go_ret
            exact ⟨by rw [HV.out]; rfl, HL6.out⟩
          · rw [hm] at HM
            by_cases h2 : (F j).i = 2
            · have e2 : ((F j).i != 2) = false := by simp [h2]
              have HV : Hid (barB I.op (F j).op (F j).i = storeB I.op) := Lib.hid (by unfold barB; rw [if_neg h39, if_neg h38, if_pos h37, hm, h2]; simp)
              clear hm
              go_wp2_with (first | (go_at_call 154; refine (HM.out _).mono ?_; rintro e w' ⟨rfl, rfl⟩) | (go_at_call 155; refine (HST.out _).mono ?_; rintro e w' ⟨rfl, rfl⟩))
              go_ret
              exact ⟨by rw [HV.out]; rfl, HL6.out⟩
            · have e2 : ((F j).i != 2) = true := by simpa using h2
              have HV : Hid (barB I.op (F j).op (F j).i = true) := Lib.hid (by unfold barB; rw [if_neg h39, if_neg h38, if_pos h37, hm]; simp [h2])
              clear hm
              go_wp2_with (first | (go_at_call 154; refine (HM.out _).mono ?_; rintro e w' ⟨rfl, rfl⟩))
              go_ret
              exact ⟨by rw [HV.out]; rfl, HL6.out⟩
        · have e37 : ((F j).op == 37) = false := by simpa using h37
          have HV : Hid (barB I.op (F j).op (F j).i = false) := Lib.hid (by unfold barB; rw [if_neg h39, if_neg h38, if_neg h37])
          go_wp2
          go_ret
          exact ⟨by rw [HV.out]; rfl, HL6.out⟩
end Go.Proofs.Ytnbpgoacooddjaa
