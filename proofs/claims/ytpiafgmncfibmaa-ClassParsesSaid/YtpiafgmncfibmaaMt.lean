import Derived.Test.YtpiafgmncfibmaaNx
import Derived.Test.YtpiafgmncfibmaaRows
import Derived.Deep.CutBlock
import Derived.Deep.DeepCutAuto
import Derived.Carry
import Derived.WalkKit
import Derived.ProofKit
import Derived.OpenShut
import Derived.Deep.QuietTactic
import Derived.BigQuiet
import Derived.Outline
import Derived.WalkSmall
import Derived.WalkLawsBesides
import Derived.WalkSpells
import Derived.BigGuardPart
import Derived.RegionTactic
import Derived.Deep.RegionHeld3
import Derived.Lib.Hide
import Derived.Deep.MidRow
import Derived.Below
import Derived.Deep.RegionWith
import Derived.Deep.OwnRows
import Derived.Deep.AppendLies
namespace Go.Proofs.Ytpiafgmncfibmaa
open Go.ChangeShapes Go.WideShapes Go.ChangeAt Go.RowKit
set_option linter.unusedVariables false

/-- The law's fourteen bytes. -/
def by14 : Array Value := #[.int .u8 66, .int .u8 90, .int .u8 82, .int .u8 49, .int .u8 0, .int .u8 0, .int .u8 1, .int .u8 0, .int .u8 0, .int .u8 0, .int .u8 0, .int .u8 1, .int .u8 0, .int .u8 28]
def PS (w : World) (R B k : Nat) : Prop := rowAt w R = some (rdr B 0 14 14 k) ∧ rowAt w B = some by14 ∧ B ≠ R
theorem PS.next {w w' : World} {R B k : Nat} (h : PS w R B k) (hr : rowAt w' R = some (rdr B 0 14 14 (k + 1))) (hg : w.grownBy w' (some R)) : PS w' R B (k + 1) := ⟨hr, rowAt_grown h.2.1 hg h.2.2, h.2.2⟩
theorem PS.alloc {w : World} {R B k : Nat} (h : PS w R B k) (o : Obj) : PS (w.alloc o) R B k := ⟨rowAt_past h.1 _, rowAt_past h.2.1 _, h.2.2⟩
theorem PS.set {w : World} {R B k : Nat} (h : PS w R B k) (a : Addr) (v : Value) (h1 : R ≠ a.block) (h2 : B ≠ a.block) : PS (w.setCell a v) R B k := ⟨rowAt_grown h.1 (grown_set w a v) h1, rowAt_grown h.2.1 (grown_set w a v) h2, h.2.2⟩
theorem PS.grown {w w' : World} {R B k g : Nat} (h : PS w R B k) (hg : w.grownBy w' (some g)) (h1 : R ≠ g) (h2 : B ≠ g) : PS w' R B k := ⟨rowAt_grown h.1 hg h1, rowAt_grown h.2.1 hg h2, h.2.2⟩
theorem types0_c (R : Nat) (w : World) : Calls Try.prog 123 #[.pointer (some ⟨R, 0, none⟩), .int .i64 0] w fun e w' => e = .returned (.slice none 0 0) ∧ w = w' := by
  go_enter Try.func123, Try.ntmps123
  go_wp2
  refine wp_loop_rounds 1 ?_
  rw [rounds_succ]
  go_wp2
  go_ret
  exact ⟨rfl, rfl⟩
def m5 (r : Int) (s : Int) (c : Value) : Array Value := #[.slice none 0 0, .int .i64 r, .slice none 0 0, .int .i64 s, c]
def MethR (R B : Nat) (w : World) (e : Ending) (w' : World) : Prop := ∃ g cap, e = .returned (.agg #[.slice none 0 0, .int .i64 0, .slice none 0 0, .int .i64 0, .slice (some ⟨g, 0, none⟩) 1 cap]) ∧ LB w.heap.size w' g 1 cap [28] ∧ PS w' R B 14 ∧ w.grownBy w' (some R)

def z5 : Array Value := #[.slice none 0 0, .int .i64 0, .slice none 0 0, .int .i64 0, .slice none 0 0]
structure MS (w V : World) (R B k : Nat) (X : Array Value) : Prop where
  ps : PS V R B k
  x : rowAt V w.heap.size = some z5
  y : rowAt V (w.heap.size + 1) = some X
  gr : w.grownBy V (some R)
theorem MS.next {w V V' : World} {R B k : Nat} {X : Array Value} (h : MS w V R B k X) (hr : rowAt V' R = some (rdr B 0 14 14 (k + 1))) (hg : V.grownBy V' (some R)) (hR : R < w.heap.size) : MS w V' R B (k + 1) X :=
  ⟨h.ps.next hr hg, rowAt_grown h.x hg (by omega), rowAt_grown h.y hg (by omega), grown_trans h.gr hg (.inl rfl)⟩
theorem MS.set {w V : World} {R B k : Nat} {X : Array Value} (h : MS w V R B k X) (j : Nat) (v : Value) (hR : R < w.heap.size) (hB : B < w.heap.size) : MS w (V.setCell ⟨w.heap.size + 1, j, none⟩ v) R B k (X.setIfInBounds j v) :=
  ⟨h.ps.set _ _ (by show R ≠ w.heap.size + 1; omega) (by show B ≠ w.heap.size + 1; omega), rowAt_grown h.x (grown_set V _ v) (by show w.heap.size ≠ w.heap.size + 1; omega), rowAt_set h.y j v, grown_trans h.gr (grown_set V _ v) (.inr (by show w.heap.size ≤ w.heap.size + 1; omega))⟩
theorem MS.alloc {w V : World} {R B k : Nat} {X : Array Value} (h : MS w V R B k X) (o : Obj) : MS w (V.alloc o) R B k X := ⟨h.ps.alloc _, rowAt_past h.x _, rowAt_past h.y _, grown_trans h.gr (grown_alloc V o (some R)) (.inl rfl)⟩
theorem rowAt_grownN {w w' : World} {b : Nat} {C : Array Value} (h : rowAt w b = some C) (hg : w.grownBy w' none) : rowAt w' b = some C := by
  obtain ⟨t, ht⟩ := rowAt_heap h
  exact rowAt_of ((hg.block b (rowAt_lt h) (fun e => nomatch e)).trans ht)
theorem MS.grownN {w V V' : World} {R B k : Nat} {X : Array Value} (h : MS w V R B k X) (hg : V.grownBy V' none) : MS w V' R B k X :=
  ⟨⟨rowAt_grownN h.ps.1 hg, rowAt_grownN h.ps.2.1 hg, h.ps.2.2⟩, rowAt_grownN h.x hg, rowAt_grownN h.y hg, ⟨hg.os.trans h.gr.os, hg.tape.trans h.gr.tape, hg.output.trans h.gr.output, Nat.le_trans h.gr.size hg.size, fun i hi hne => (hg.block i (Nat.lt_of_lt_of_le hi h.gr.size) (fun e => nomatch e)).trans (h.gr.block i hi hne)⟩⟩
theorem MS.drew {w V : World} {R B k : Nat} {X : Array Value} (h : MS w V R B k X) : MS w V.drew R B k X := ⟨h.ps, h.x, h.y, ⟨h.gr.os, h.gr.tape, h.gr.output, h.gr.size, h.gr.block⟩⟩
structure FS (w V : World) (R B k g cap : Nat) (X : Array Value) : Prop where
  ps : PS V R B k
  x : rowAt V w.heap.size = some X
  lb : LB (w.heap.size + 2) V g 1 cap [28]
  gr : w.grownBy V (some R)
theorem FS.set {w V : World} {R B k g cap : Nat} {X X' : Array Value} (h : FS w V R B k g cap X) (j : Nat) (v : Value) (hR : R < w.heap.size) (hB : B < w.heap.size) (hX : X.setIfInBounds j v = X') : FS w (V.setCell ⟨w.heap.size, j, none⟩ v) R B k g cap X' :=
  ⟨h.ps.set _ _ (by show R ≠ w.heap.size; omega) (by show B ≠ w.heap.size; omega), hX ▸ rowAt_set h.x j v, LB.of_block h.lb (Below.heap_setCell _ _ _ _ (by have := h.lb.lt.1; show g ≠ w.heap.size; omega)), grown_trans h.gr (grown_set V _ v) (.inr (Nat.le_refl _))⟩
theorem LB.mono' {B B' : Nat} {w : World} {g n cap : Nat} {xs : List Int} (h : LB B w g n cap xs) (hb : B' ≤ B) : LB B' w g n cap xs := by
  refine ⟨h.1, h.2.1, ?_⟩
  rcases h.2.2 with h1 | ⟨g', c', cur, hv, hbg, r⟩
  · exact .inl h1
  · exact .inr ⟨g', c', cur, hv, Nat.le_trans hb hbg, r⟩
theorem memo1 {I F : World → Prop} {Q : Prop} (main : Hid (∀ V, I V → F V) → Q) (leaf : ∀ V, I V → F V) : Q := main (Lib.hid leaf)
theorem memo2 {I F : World → Nat → Prop} {Q : Prop} (main : Hid (∀ V n, I V n → F V n) → Q) (leaf : ∀ V n, I V n → F V n) : Q := main (Lib.hid leaf)
theorem ps_byte {w : World} {R B k : Nat} (h : PS w R B k) (j : Nat) (v : Value) (hv : by14[j]? = some v) : w.cell? ⟨B, 0 + j, none⟩ = some v := by rw [rowAt_cell h.2.1, Nat.zero_add]; exact hv

set_option maxRecDepth 100000 in
set_option maxHeartbeats 4000000 in
theorem method_c (R B : Nat) (w : World) (HP0 : Hid (PS w R B 7)) : Calls Try.prog 110 #[.pointer (some ⟨R, 0, none⟩)] w (MethR R B w) := by
  have hR := rowAt_lt HP0.out.1
  have hB := rowAt_lt HP0.out.2.1
  go_enter Try.func110, Try.ntmps110
  go_wp2_with fail
  have HS : Hid (MS w ((w.alloc (.cells z5 50)).alloc (.cells z5 50)) R B 7 z5) := Lib.hid ⟨(HP0.out.alloc _).alloc _, rowAt_past (rowAt_new _ _ _) _, (by have := rowAt_new (w.alloc (.cells z5 50)) z5 50; simpa using this), grown_trans (grown_alloc _ _ _) (grown_alloc _ _ (some R)) (.inl rfl)⟩
  generalize hV0 : ((w.alloc (.cells #[.slice none 0 0, .int .i64 0, .slice none 0 0, .int .i64 0, .slice none 0 0] 50)).alloc (.cells #[.slice none 0 0, .int .i64 0, .slice none 0 0, .int .i64 0, .slice none 0 0] 50)) = V0
  replace HS : Hid (MS w V0 R B 7 z5) := Lib.hid (hV0 ▸ HS.out)
  clear hV0 HP0
  refine (rdr_any R B 0 14 14 7 0 V0 (Lib.hid HS.out.ps.1) (by decide) (by decide) (ps_byte HS.out.ps 7 _ rfl) (by decide)).mono ?_
  rintro e V1 ⟨he, hr, hg⟩
  obtain rfl : e = .returned (.int .i64 0) := he
  replace HS := Lib.hid (HS.out.next hr hg hR)
  clear hr hg
  go_wp2_with fail
  refine (types0_c R _).mono ?_
  rintro e w' ⟨rfl, rfl⟩
  have y0 : V1.cell? ⟨w.heap.size + 1, 0, none⟩ = some (.slice none 0 0) := rowAt_cell HS.out.y 0
  have z0 : V1.frozen? ⟨w.heap.size + 1, 0, none⟩ = false := rowAt_frz HS.out.y 0
  go_wp2_with fail
  replace HS : Hid (MS w (V1.setCell ⟨w.heap.size + 1, 0, none⟩ (.slice none 0 0)) R B 8 z5) := Lib.hid (HS.out.set 0 (.slice none 0 0) hR hB)
  clear y0 z0
  generalize V1.setCell ⟨w.heap.size + 1, 0, none⟩ (.slice none 0 0) = V2 at HS ⊢
  refine (next_ret R B 0 14 14 8 0 5 V2 (Lib.hid HS.out.ps.1) (by decide) (by decide) (ps_byte HS.out.ps 8 _ rfl) (by decide) (Lib.hid rfl)).mono ?_
  rintro e V3 ⟨he, hr, hg⟩
  obtain rfl : e = .returned (.int .i64 0) := he
  replace HS := Lib.hid (HS.out.next hr hg hR)
  clear hr hg
  have y1 : V3.cell? ⟨w.heap.size + 1, 1, none⟩ = some (.int .i64 0) := rowAt_cell HS.out.y 1
  have z1 : V3.frozen? ⟨w.heap.size + 1, 1, none⟩ = false := rowAt_frz HS.out.y 1
  have y0 : V3.cell? ⟨w.heap.size + 1, 0, none⟩ = some (.slice none 0 0) := rowAt_cell HS.out.y 0
  have z0 : V3.frozen? ⟨w.heap.size + 1, 0, none⟩ = false := rowAt_frz HS.out.y 0
  go_wp2_with fail
  replace HS : Hid (MS w (V3.setCell ⟨w.heap.size + 1, 1, none⟩ (.int .i64 0)) R B 9 z5) := Lib.hid (HS.out.set 1 (.int .i64 0) hR hB)
  clear y1 z1
  generalize V3.setCell ⟨w.heap.size + 1, 1, none⟩ (.int .i64 0) = V4 at HS ⊢
  clear y0 z0
  refine (rdr_count R B 0 14 14 9 0 40 V4 (Lib.hid HS.out.ps.1) (by decide) (by decide) (ps_byte HS.out.ps 9 _ rfl) (by decide) (by decide) (rowAt_lt HS.out.ps.2.1)).mono ?_
  rintro e V5 ⟨he, hr, hg⟩
  obtain rfl : e = .returned (.int .i64 0) := he
  replace HS := Lib.hid (HS.out.next hr hg hR)
  clear hr hg
  go_wp2_with fail
  refine (types0_c R _).mono ?_
  rintro e w' ⟨rfl, rfl⟩
  have y2 : V5.cell? ⟨w.heap.size + 1, 2, none⟩ = some (.slice none 0 0) := rowAt_cell HS.out.y 2
  have z2 : V5.frozen? ⟨w.heap.size + 1, 2, none⟩ = false := rowAt_frz HS.out.y 2
  go_wp2_with fail
  replace HS : Hid (MS w (V5.setCell ⟨w.heap.size + 1, 2, none⟩ (.slice none 0 0)) R B 10 z5) := Lib.hid (HS.out.set 2 (.slice none 0 0) hR hB)
  clear y2 z2
  generalize V5.setCell ⟨w.heap.size + 1, 2, none⟩ (.slice none 0 0) = V6 at HS ⊢
  refine (rdr_count R B 0 14 14 10 0 40 V6 (Lib.hid HS.out.ps.1) (by decide) (by decide) (ps_byte HS.out.ps 10 _ rfl) (by decide) (by decide) (rowAt_lt HS.out.ps.2.1)).mono ?_
  rintro e V7 ⟨he, hr, hg⟩
  obtain rfl : e = .returned (.int .i64 0) := he
  replace HS := Lib.hid (HS.out.next hr hg hR)
  clear hr hg
  have y3 : V7.cell? ⟨w.heap.size + 1, 3, none⟩ = some (.int .i64 0) := rowAt_cell HS.out.y 3
  have z3 : V7.frozen? ⟨w.heap.size + 1, 3, none⟩ = false := rowAt_frz HS.out.y 3
  have r1 : V7.cell? ⟨R, 1, none⟩ = some (.int .i64 11) := rowAt_cell HS.out.ps.1 1
  go_wp2_with fail
  replace HS : Hid (MS w (V7.setCell ⟨w.heap.size + 1, 3, none⟩ (.int .i64 0)) R B 11 z5) := Lib.hid (HS.out.set 3 (.int .i64 0) hR hB)
  clear y3 z3
  generalize V7.setCell ⟨w.heap.size + 1, 3, none⟩ (.int .i64 0) = V8 at HS ⊢
  clear r1
  refine (rdr_any R B 0 14 14 11 1 V8 (Lib.hid HS.out.ps.1) (by decide) (by decide) (ps_byte HS.out.ps 11 _ rfl) (by decide)).mono ?_
  rintro e V9 ⟨he, hr, hg⟩
  obtain rfl : e = .returned (.int .i64 1) := he
  replace HS := Lib.hid (HS.out.next hr hg hR)
  clear hr hg
  go_wp2_with fail
  refine (rdr_any R B 0 14 14 12 0 V9 (Lib.hid HS.out.ps.1) (by decide) (by decide) (ps_byte HS.out.ps 12 _ rfl) (by decide)).mono ?_
  rintro e V10 ⟨he, hr, hg⟩
  obtain rfl : e = .returned (.int .i64 0) := he
  replace HS := Lib.hid (HS.out.next hr hg hR)
  clear hr hg
  have hor : bits BinOp.or IntKind.i64 1 0 = 1 := by kernel_rfl
  go_wp2_with fail
  clear hor
  refine wp_loop_rounds 2 ?_
  rw [rounds_succ]
  go_wp2
  refine wp_region_held_drew (S := (fun w' => True)) (by kernel_rfl) trivial (fun hHeld => ?_)
  replace HS := Lib.hid HS.out.drew
  generalize V10.drew = u at HS ⊢
  refine wpAnyH_take (i := 0) (oi := { dst := some 52, op := Op.fieldAddr 50 (Operand.tmp 3) 4, type := 0, pos := "parse.go:129", after := #[], guard := none }) (v := ?_) rfl (by kernel_rfl) (by kernel_rfl) (by kernel_rfl) (fun _ _ _ h => h) (Or.inl ⟨by rfl, ?_⟩) (by assumption) ?_
  rotate_left
  · (intro w9 hSw; (try dsimp only at hSw); go_split_ands; go_simp; with_reducible rfl)
  try simp only [Act.put, List.setIfInBounds_toArray, List.set_cons_zero, List.set_cons_succ]
  refine wpAnyH_take (i := 2) (oi := { dst := some 54, op := Op.move (Operand.tmp 0), type := 93, pos := "parse.go:129", after := #[], guard := none }) (v := ?_) rfl (by kernel_rfl) (by kernel_rfl) (by kernel_rfl) (fun _ _ _ h => h) (Or.inl ⟨by rfl, ?_⟩) (by assumption) ?_
  rotate_left
  · (intro w9 hSw; (try dsimp only at hSw); go_split_ands; go_simp; with_reducible rfl)
  try simp only [Act.put, List.setIfInBounds_toArray, List.set_cons_zero, List.set_cons_succ]
  clear hHeld
  apply memo2 (I := fun V nb => Hid (MS w V R B (13 + 1) z5) ∧ Hid (rowAt V nb = some #[.int .u8 28]))
  · intro HLB
    apply memo1 (I := fun V => Hid (MS w V R B (13 + 1) z5))
    · intro HLC
      refine wpAnyH_ready (rs := [1, 3]) (by kernel_rfl) (by simp) ?_
      refine AllReadyH.cons (o := { dst := some 53, op := Op.load 29 (Operand.tmp 52), type := 29, pos := "parse.go:129", after := #[{ on := 0, ground := Ground.data }], guard := none }) rfl (fun K' hK => ?_) (AllReadyH.cons (o := { dst := some 55, op := Op.call { callee := Callee.value (Operand.func 121), args := #[Operand.tmp 54], argTypes := #[93] }, type := 3, pos := "parse.go:129", after := #[{ on := 2, ground := Ground.data }], guard := none }) rfl (fun K' hK => ?_) AllReadyH.nil)
      · have y4 : u.cell? ⟨w.heap.size + 1, 4, none⟩ = some (.slice none 0 0) := rowAt_cell HS.out.y 4
        go_simp
        clear y4
        refine hK.out _ _ trivial (fun hHeld => ?_)
        clear hHeld hK K'
        try simp only [Act.put, List.setIfInBounds_toArray, List.set_cons_zero, List.set_cons_succ]
        refine wpAnyH_ready (rs := [3]) (by kernel_rfl) (by simp) ?_
        refine AllReadyH.cons (o := { dst := some 55, op := Op.call { callee := Callee.value (Operand.func 121), args := #[Operand.tmp 54], argTypes := #[93] }, type := 3, pos := "parse.go:129", after := #[{ on := 2, ground := Ground.data }], guard := none }) rfl (fun K' hK => ?_) AllReadyH.nil
        go_simp
        go_at_call 121
        refine (rdr_any R B 0 14 14 13 28 u (Lib.hid HS.out.ps.1) (by decide) (by decide) (ps_byte HS.out.ps 13 _ rfl) (by decide)).mono ?_
        rintro e v ⟨he, hr, hg⟩
        obtain rfl : e = .returned (.int .i64 28) := he
        replace HS := Lib.hid (HS.out.next hr hg hR)
        clear hr hg
        refine hK.out _ _ trivial (fun hHeld => ?_)
        clear hHeld hK K'
        try simp only [Act.put, List.setIfInBounds_toArray, List.set_cons_zero, List.set_cons_succ]
        have hTrue : True := trivial
        have hwr : IntKind.u8.wrap 28 = 28 := by kernel_rfl
        refine wpAnyH_take (i := 4) (oi := { dst := some 56, op := Op.convert 3 5 (Operand.tmp 55), type := 5, pos := "parse.go:129", after := #[{ on := 3, ground := Ground.data }], guard := none }) (v := ?_) rfl (by kernel_rfl) (by kernel_rfl) (by kernel_rfl) (fun _ _ _ h => h) (Or.inl ⟨by rfl, ?_⟩) (by assumption) ?_
        rotate_left
        · (intro w9 hSw; (try dsimp only at hSw); go_split_ands; go_simp; with_reducible rfl)
        try simp only [Act.put, List.setIfInBounds_toArray, List.set_cons_zero, List.set_cons_succ]
        clear hTrue hwr
        exact HLC.out v HS
      · go_simp
        go_at_call 121
        refine (rdr_any R B 0 14 14 13 28 u (Lib.hid HS.out.ps.1) (by decide) (by decide) (ps_byte HS.out.ps 13 _ rfl) (by decide)).mono ?_
        rintro e v ⟨he, hr, hg⟩
        obtain rfl : e = .returned (.int .i64 28) := he
        replace HS := Lib.hid (HS.out.next hr hg hR)
        clear hr hg
        refine hK.out _ _ trivial (fun hHeld => ?_)
        clear hHeld hK K'
        try simp only [Act.put, List.setIfInBounds_toArray, List.set_cons_zero, List.set_cons_succ]
        have hTrue : True := trivial
        have hwr : IntKind.u8.wrap 28 = 28 := by kernel_rfl
        refine wpAnyH_take (i := 4) (oi := { dst := some 56, op := Op.convert 3 5 (Operand.tmp 55), type := 5, pos := "parse.go:129", after := #[{ on := 3, ground := Ground.data }], guard := none }) (v := ?_) rfl (by kernel_rfl) (by kernel_rfl) (by kernel_rfl) (fun _ _ _ h => h) (Or.inl ⟨by rfl, ?_⟩) (by assumption) ?_
        rotate_left
        · (intro w9 hSw; (try dsimp only at hSw); go_split_ands; go_simp; with_reducible rfl)
        try simp only [Act.put, List.setIfInBounds_toArray, List.set_cons_zero, List.set_cons_succ]
        clear hTrue hwr
        refine wpAnyH_ready (rs := [1, 5]) (by kernel_rfl) (by simp) ?_
        refine AllReadyH.cons (o := { dst := some 53, op := Op.load 29 (Operand.tmp 52), type := 29, pos := "parse.go:129", after := #[{ on := 0, ground := Ground.data }], guard := none }) rfl (fun K' hK => ?_) (AllReadyH.cons (o := { dst := some 57, op := Op.buildSlice 29 1 #[(0, Operand.tmp 56)], type := 29, pos := "parse.go:129", after := #[{ on := 4, ground := Ground.data }], guard := none }) rfl (fun K' hK => ?_) AllReadyH.nil)
        · have y4 : v.cell? ⟨w.heap.size + 1, 4, none⟩ = some (.slice none 0 0) := rowAt_cell HS.out.y 4
          go_simp
          clear y4
          refine hK.out _ _ trivial (fun hHeld => ?_)
          clear hHeld hK K'
          try simp only [Act.put, List.setIfInBounds_toArray, List.set_cons_zero, List.set_cons_succ]
          exact HLC.out v HS
        · go_simp
          replace HS := Lib.hid (HS.out.alloc (.cells #[.int .u8 28] 5))
          have HN : Hid (rowAt (v.alloc (.cells #[.int .u8 28] 5)) v.heap.size = some #[.int .u8 28]) := Lib.hid (rowAt_new _ _ _)
          refine hK.out _ _ trivial (fun hHeld => ?_)
          clear hHeld hK K'
          try simp only [Act.put, List.setIfInBounds_toArray, List.set_cons_zero, List.set_cons_succ]
          generalize (v.alloc (.cells #[.int .u8 28] 5)) = b at HS HN ⊢
          generalize v.heap.size = nb at HN ⊢
          refine wpAnyH_ready (rs := [1]) (by kernel_rfl) (by simp) ?_
          refine AllReadyH.cons (o := { dst := some 53, op := Op.load 29 (Operand.tmp 52), type := 29, pos := "parse.go:129", after := #[{ on := 0, ground := Ground.data }], guard := none }) rfl (fun K' hK => ?_) AllReadyH.nil
          have y4 : b.cell? ⟨w.heap.size + 1, 4, none⟩ = some (.slice none 0 0) := rowAt_cell HS.out.y 4
          go_simp
          clear y4
          refine hK.out _ _ trivial (fun hHeld => ?_)
          clear hHeld hK K'
          try simp only [Act.put, List.setIfInBounds_toArray, List.set_cons_zero, List.set_cons_succ]
          exact HLB.out b nb ⟨HS, HN⟩
    · intro v HS
      refine wpAnyH_ready (rs := [5]) (by kernel_rfl) (by simp) ?_
      refine AllReadyH.cons (o := { dst := some 57, op := Op.buildSlice 29 1 #[(0, Operand.tmp 56)], type := 29, pos := "parse.go:129", after := #[{ on := 4, ground := Ground.data }], guard := none }) rfl (fun K' hK => ?_) AllReadyH.nil
      go_simp
      replace HS := Lib.hid (HS.out.alloc (.cells #[.int .u8 28] 5))
      have HN : Hid (rowAt (v.alloc (.cells #[.int .u8 28] 5)) v.heap.size = some #[.int .u8 28]) := Lib.hid (rowAt_new _ _ _)
      refine hK.out _ _ trivial (fun hHeld => ?_)
      clear hHeld hK K'
      try simp only [Act.put, List.setIfInBounds_toArray, List.set_cons_zero, List.set_cons_succ]
      generalize (v.alloc (.cells #[.int .u8 28] 5)) = b at HS HN ⊢
      generalize v.heap.size = nb at HN ⊢
      exact HLB.out b nb ⟨HS, HN⟩
  · rintro b nb ⟨HS, HN⟩
    have hnew : ∀ (j : Nat) (u : Value), ([Value.int .u8 28] : List Value)[j]? = some u → b.cell? ((⟨nb, 0, none⟩ : Addr).add j) = some u := fun j u hu => (by obtain ⟨t, ht⟩ := rowAt_heap HN.out; exact World.news_of_block ht j u hu)
    obtain ⟨i0, hi, hz0, hz1, hz2⟩ := info_parts info5
    have hyl := rowAt_lt HS.out.y
    refine wpAnyH_ready (rs := [6]) (by kernel_rfl) (by simp) ?_
    refine AllReadyH.cons (o := { dst := some 58, op := Op.call { callee := Callee.builtin Builtin.append, args := #[Operand.tmp 53, Operand.tmp 57], argTypes := #[29, 29] }, type := 29, pos := "parse.go:129", after := #[{ on := 1, ground := Ground.data }, { on := 5, ground := Ground.data }, { on := 3, ground := Ground.chain }], guard := none }) rfl (fun K' hK => ?_) AllReadyH.nil
    refine step_append_lies _ (by rfl) (.tmp 53) (.tmp 57) 29 (by rfl) (w.heap.size + 2) 5 i0 (.int .u8 0) 1 1 Try.underlying29 hi hz0 hz1 hz2 rfl (by omega) (.slice none 0 0) 0 [] rfl (World.ownsRow_nil _ _ _ _) ⟨nb, 0, none⟩ 1 1 [.int .u8 28] rfl rfl hnew (by intro u' hu; simp only [List.mem_singleton] at hu; subst hu; rfl) (by omega) (by decide) (by decide) (by omega) _ rfl ?_
    intro g cap c ho hg hl hlt
    replace HS := Lib.hid (HS.out.grownN hg)
    have HO : Hid (LB (w.heap.size + 2) c g 1 cap [28]) := Lib.hid ⟨rfl, ho⟩
    clear hnew hg hl hlt ho HN hi hz0 hz1 hz2
    refine hK.out _ _ trivial (fun hHeld => ?_)
    clear hHeld hK K'
    try simp only [Act.put, List.setIfInBounds_toArray, List.set_cons_zero, List.set_cons_succ]
    have hTrue : True := trivial
    refine wpAnyH_take (i := 7) (oi := { dst := some 59, op := Op.fieldAddr 50 (Operand.tmp 3) 4, type := 0, pos := "parse.go:129", after := #[{ on := 0, ground := Ground.phase }, { on := 1, ground := Ground.phase }, { on := 2, ground := Ground.phase }, { on := 3, ground := Ground.phase }, { on := 4, ground := Ground.phase }, { on := 5, ground := Ground.phase }, { on := 6, ground := Ground.phase }], guard := none }) (v := ?_) rfl (by kernel_rfl) (by kernel_rfl) (by kernel_rfl) (fun _ _ _ h => h) (Or.inl ⟨by rfl, ?_⟩) (by assumption) ?_
    rotate_left
    · (intro w9 hSw; (try dsimp only at hSw); go_split_ands; go_simp; with_reducible rfl)
    try simp only [Act.put, List.setIfInBounds_toArray, List.set_cons_zero, List.set_cons_succ]
    clear hTrue
    refine wpAnyH_ready (rs := [8]) (by kernel_rfl) (by simp) ?_
    refine AllReadyH.cons (o := { dst := none, op := Op.store 29 (Operand.tmp 59) (Operand.tmp 58), type := 0, pos := "parse.go:129", after := #[{ on := 7, ground := Ground.data }, { on := 6, ground := Ground.data }, { on := 6, ground := Ground.chain }, { on := 0, ground := Ground.phase }, { on := 1, ground := Ground.phase }, { on := 2, ground := Ground.phase }, { on := 3, ground := Ground.phase }, { on := 4, ground := Ground.phase }, { on := 5, ground := Ground.phase }, { on := 6, ground := Ground.phase }], guard := none }) rfl (fun K' hK => ?_) AllReadyH.nil
    have y4 : c.cell? ⟨w.heap.size + 1, 4, none⟩ = some (.slice none 0 0) := rowAt_cell HS.out.y 4
    have z4 : c.frozen? ⟨w.heap.size + 1, 4, none⟩ = false := rowAt_frz HS.out.y 4
    go_simp
    clear y4 z4
    refine hK.out _ _ trivial (fun hHeld => ?_)
    clear hHeld hK K'
    try simp only [Act.put, List.setIfInBounds_toArray, List.set_cons_zero, List.set_cons_succ]
    refine wpAnyH_done (by kernel_rfl) ?_ _
    replace HS := Lib.hid (HS.out.set 4 (.slice (some ⟨g, 0, none⟩) 1 cap) hR hB)
    replace HO := Lib.hid (LB.of_block (w' := c.setCell ⟨w.heap.size + 1, 4, none⟩ (.slice (some ⟨g, 0, none⟩) 1 cap)) HO.out (Below.heap_setCell _ _ _ _ (by have := HO.out.lt.1; show g ≠ w.heap.size + 1; omega)))
    generalize c.setCell ⟨w.heap.size + 1, 4, none⟩ (.slice (some ⟨g, 0, none⟩) 1 cap) = d at HS HO ⊢
    go_wp2
    rw [rounds_succ]
    have y0 : d.cell? ⟨w.heap.size + 1, 0, none⟩ = some (.slice none 0 0) := rowAt_cell HS.out.y 0
    have y1 : d.cell? ⟨w.heap.size + 1, 1, none⟩ = some (.int .i64 0) := rowAt_cell HS.out.y 1
    have y2 : d.cell? ⟨w.heap.size + 1, 2, none⟩ = some (.slice none 0 0) := rowAt_cell HS.out.y 2
    have y3 : d.cell? ⟨w.heap.size + 1, 3, none⟩ = some (.int .i64 0) := rowAt_cell HS.out.y 3
    have y4 : d.cell? ⟨w.heap.size + 1, 4, none⟩ = some (.slice (some ⟨g, 0, none⟩) 1 cap) := rowAt_cell HS.out.y 4
    have x0 : d.cell? ⟨w.heap.size, 0, none⟩ = some (.slice none 0 0) := rowAt_cell HS.out.x 0
    have f0 : d.frozen? ⟨w.heap.size, 0, none⟩ = false := rowAt_frz HS.out.x 0
    have x1 : d.cell? ⟨w.heap.size, 1, none⟩ = some (.int .i64 0) := rowAt_cell HS.out.x 1
    have f1 : d.frozen? ⟨w.heap.size, 1, none⟩ = false := rowAt_frz HS.out.x 1
    have x2 : d.cell? ⟨w.heap.size, 2, none⟩ = some (.slice none 0 0) := rowAt_cell HS.out.x 2
    have f2 : d.frozen? ⟨w.heap.size, 2, none⟩ = false := rowAt_frz HS.out.x 2
    have x3 : d.cell? ⟨w.heap.size, 3, none⟩ = some (.int .i64 0) := rowAt_cell HS.out.x 3
    have f3 : d.frozen? ⟨w.heap.size, 3, none⟩ = false := rowAt_frz HS.out.x 3
    have x4 : d.cell? ⟨w.heap.size, 4, none⟩ = some (.slice none 0 0) := rowAt_cell HS.out.x 4
    have f4 : d.frozen? ⟨w.heap.size, 4, none⟩ = false := rowAt_frz HS.out.x 4
    go_wp2
    have HF : Hid (FS w d R B 14 g cap z5) := Lib.hid ⟨HS.out.ps, HS.out.x, HO.out, HS.out.gr⟩
    clear y0 x0 f0 y1 x1 f1 y2 x2 f2 y3 x3 f3 y4 x4 f4
    have hd := hR
    replace HF : Hid (FS w (d.setCell ⟨w.heap.size, 0, none⟩ (.slice none 0 0)) R B 14 g cap #[.slice none 0 0, .int .i64 0, .slice none 0 0, .int .i64 0, .slice none 0 0]) := Lib.hid (HF.out.set 0 _ hR hB rfl)
    generalize d.setCell ⟨w.heap.size, 0, none⟩ (.slice none 0 0) = e0 at HF ⊢
    replace HF : Hid (FS w (e0.setCell ⟨w.heap.size, 1, none⟩ (.int .i64 0)) R B 14 g cap #[.slice none 0 0, .int .i64 0, .slice none 0 0, .int .i64 0, .slice none 0 0]) := Lib.hid (HF.out.set 1 _ hR hB rfl)
    generalize e0.setCell ⟨w.heap.size, 1, none⟩ (.int .i64 0) = e1 at HF ⊢
    replace HF : Hid (FS w (e1.setCell ⟨w.heap.size, 2, none⟩ (.slice none 0 0)) R B 14 g cap #[.slice none 0 0, .int .i64 0, .slice none 0 0, .int .i64 0, .slice none 0 0]) := Lib.hid (HF.out.set 2 _ hR hB rfl)
    generalize e1.setCell ⟨w.heap.size, 2, none⟩ (.slice none 0 0) = e2 at HF ⊢
    replace HF : Hid (FS w (e2.setCell ⟨w.heap.size, 3, none⟩ (.int .i64 0)) R B 14 g cap #[.slice none 0 0, .int .i64 0, .slice none 0 0, .int .i64 0, .slice none 0 0]) := Lib.hid (HF.out.set 3 _ hR hB rfl)
    generalize e2.setCell ⟨w.heap.size, 3, none⟩ (.int .i64 0) = e3 at HF ⊢
    replace HF : Hid (FS w (e3.setCell ⟨w.heap.size, 4, none⟩ (.slice (some ⟨g, 0, none⟩) 1 cap)) R B 14 g cap #[.slice none 0 0, .int .i64 0, .slice none 0 0, .int .i64 0, .slice (some ⟨g, 0, none⟩) 1 cap]) := Lib.hid (HF.out.set 4 _ hR hB rfl)
    generalize e3.setCell ⟨w.heap.size, 4, none⟩ (.slice (some ⟨g, 0, none⟩) 1 cap) = e4 at HF ⊢
    have x0 : e4.cell? ⟨w.heap.size, 0, none⟩ = some (.slice none 0 0) := rowAt_cell HF.out.x 0
    have x1 : e4.cell? ⟨w.heap.size, 1, none⟩ = some (.int .i64 0) := rowAt_cell HF.out.x 1
    have x2 : e4.cell? ⟨w.heap.size, 2, none⟩ = some (.slice none 0 0) := rowAt_cell HF.out.x 2
    have x3 : e4.cell? ⟨w.heap.size, 3, none⟩ = some (.int .i64 0) := rowAt_cell HF.out.x 3
    have x4 : e4.cell? ⟨w.heap.size, 4, none⟩ = some (.slice (some ⟨g, 0, none⟩) 1 cap) := rowAt_cell HF.out.x 4
    exact bodyPost_ret (v := .agg #[.slice none 0 0, .int .i64 0, .slice none 0 0, .int .i64 0, .slice (some ⟨g, 0, none⟩) 1 cap]) (by simp [results, Try.results110, go_sem, x0, x1, x2, x3, x4]) rfl ⟨g, cap, rfl, HF.out.lb.mono' (by omega), HF.out.ps, HF.out.gr⟩
end Go.Proofs.Ytpiafgmncfibmaa
