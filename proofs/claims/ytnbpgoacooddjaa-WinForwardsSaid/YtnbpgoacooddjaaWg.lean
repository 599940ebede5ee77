import Derived.WalkKit
import Derived.ProofKit
import Derived.OpenShut
import Derived.Deep.QuietTactic
import Derived.BigQuiet
import Derived.Outline
import Derived.WalkSmall
import Derived.WalkLawsBesides
import Derived.WalkSpells
import Derived.BigGuardPart
import Derived.RegionTactic
import Derived.Deep.RegionHeld3
import Derived.Lib.Hide
import Derived.Deep.MidRow
import Derived.Below
import Derived.Deep.RegionWith
import Derived.Deep.OwnRows
import Derived.Deep.AppendLies
import Derived.Deep.RegionLaw
import Derived.Laws.BitsAllLaws
import Derived.Laws.BitsLemmas
import Derived.Deep.CutBlock
import Derived.Deep.DeepCutAuto
import Derived.Deep.CutRange
import Derived.Test.YtnbpgoacooddjaaWd
namespace Go.Proofs.Ytnbpgoacooddjaa
open Go.ChangeShapes Go.WideShapes Go.ChangeAt Go.RowKit
open Fr (puts ivs mem_puts)
set_option linter.unusedVariables false
theorem st126 (p v : Value) : Instr.storeAt 126 p v = stAt 126 p v := rfl
attribute [local go_sem ↓] ld126 ld25 st25 st126
attribute [local go_sem] rowAt_drew rowAt_drewN
theorem built126 (b off n cap g m : Nat) (r : Rg) : Try.prog.built 126 [(0, .slice (some ⟨b, off, none⟩) n cap), (1, .agg r.arr), (2, .slice (some ⟨g, 0, none⟩) m m)] = some (vwA b off n cap r g m) := by kernel_rfl
theorem exec_build126 (ev : Operand → Value) (d : Option Tmp) (ty : TypeId) (ps : String) (af : Array Edge) (b off n cap g m : Nat) (r : Rg) (x y z : Operand) (hx : ev x = .slice (some ⟨b, off, none⟩) n cap) (hy : ev y = .agg r.arr) (hz : ev z = .slice (some ⟨g, 0, none⟩) m m) (w : World) :
    (execOp ev { dst := d, op := .build 126 #[(0, x), (1, y), (2, z)], type := ty, pos := ps, after := af, guard := none }).run Try.prog w = .ok (.value (.agg (vwA b off n cap r g m))) w := by
  unfold execOp
  have := run_build (P := Try.prog) w 126 #[(0, .slice (some ⟨b, off, none⟩) n cap), (1, .agg r.arr), (2, .slice (some ⟨g, 0, none⟩) m m)] _ (built126 b off n cap g m r)
  simp only [Sem.run_bind, List.map_toArray, List.map_cons, List.map_nil, hx, hy, hz, this, Result.andThen_ok, Sem.run_pure]
theorem vwA_one (b off n cap g m : Nat) (r : Rg) : (vwA b off n cap r g m).all (·.oneCell') = true := by
  unfold vwA
  rw [Array.all_append, Array.all_append, r.one]
  simp [Value.oneCell']
theorem st_vw {w : World} {x : Nat} {C : Array Value} {b off n cap g m : Nat} {r : Rg} (h : rowAt w x = some C) (hs : C.size = 38) : (stAt 126 (.pointer (some ⟨x, 0, none⟩)) (.agg (vwA b off n cap r g m))).run Try.prog w = .ok () (w.setCells x 0 (vwA b off n cap r g m).toList) := by
  refine run_storeAt_mid w x 0 126 (vwA b off n cap r g m) (fun j hj => ?_) (by rw [vwA_size]; exact info126) (vwA_one _ _ _ _ _ _ _)
  rw [vwA_size] at hj
  rw [Nat.zero_add]
  refine ⟨?_, rowAt_frz h j⟩
  rw [rowAt_cell h j, Array.getElem?_eq_getElem (by omega)]
  rfl
theorem make124 (i : Nat) (hi : i ≤ 1000000) (w : World) : (Instr.makeSlice 124 (.int .i64 i) (.int .i64 i)).run Try.prog w = .ok (.slice (some ⟨w.heap.size, 0, none⟩) i i) (w.alloc (.cells (madeCells #[.int .u64 0] i) 23)) := by
  have h : (Try.prog.info? 23).map (fun i => (i.zero, i.size, i.bytes)) = some (some (.int .u64 0), 1, 8) := by kernel_rfl
  cases hi0 : Try.prog.info? 23 with
  | none => rw [hi0] at h; cases h
  | some x =>
    rw [hi0] at h
    simp only [Option.map_some, Option.some.injEq, Prod.mk.injEq] at h
    have := run_make (P := Try.prog) w 124 23 x (.int .u64 0) Try.underlying124 hi0 h.1 .i64 .i64 i i (by omega) (by omega) (by rw [h.2.2]; omega) (by omega)
    rw [h.2.1] at this
    simpa [Value.cells] using this
theorem made_at (k i : Nat) (h : k < i) : (madeCells #[.int .u64 0] i)[k]? = some (.int .u64 ((0 : Nat) : Int)) := by
  rw [Array.getElem?_eq_getElem (by rw [size_madeCells]; exact h)]
  simp [madeCells, Nat.mod_one]
theorem rowp_parts {w2 : World} {B0 : Nat} {v : Value} {xs : List Int} (hO : w2.ownsRow B0 3 1 v xs.length (Fr.ivs xs)) : ∃ a cp, v = .slice a xs.length cp ∧ xs.length ≤ cp ∧ Hid (∀ p x, xs[p]? = some x → ∃ bb, a = some ⟨bb, 0, none⟩ ∧ B0 ≤ bb ∧ bb < w2.heap.size ∧ w2.cell? ⟨bb, p, none⟩ = some (.int .i64 x)) := by
  obtain ⟨h1, h2 | ⟨g, cap, cur, hv, hg, hh, hle, hcap, hsz, htk⟩⟩ := hO
  · have : xs = [] := List.length_eq_zero_iff.1 h2.2
    subst this
    exact ⟨none, 0, h2.1, by simp, Lib.hid (fun p x h => by simp at h)⟩
  · refine ⟨some ⟨g, 0, none⟩, cap, hv, hle, Lib.hid (fun p x hx => ⟨g, rfl, hg, (Array.getElem?_eq_some_iff.1 hh).1, ?_⟩)⟩
    rw [cell_of_row w2 g p cur 3 _ hh, ← Array.getElem?_toList]
    have hi : p < xs.length := (List.getElem?_eq_some_iff.1 hx).1
    have e : (cur.toList.take (xs.length * 1))[p]? = cur.toList[p]? := by rw [List.getElem?_take_of_lt (by omega)]
    rw [← e, htk]
    simp [Fr.ivs, hx]
theorem or_bit (B y : Nat) (hB : B < 18446744073709551616) (hy : y ≤ 33) : bits .or .u64 (B : Int) (IntKind.u64.wrap (2 ^ y)) = ((B ||| 2 ^ y : Nat) : Int) := by
  have h2 : (2 : Nat) ^ y ≤ 2 ^ 33 := Nat.pow_le_pow_right (by decide) hy
  have h3 : (2 : Nat) ^ 33 = 8589934592 := by decide
  have h4 : IntKind.u64.wrap ((2 : Int) ^ y) = ((2 ^ y : Nat) : Int) := by
    have : ((2 : Int) ^ y) = ((2 ^ y : Nat) : Int) := by simp
    rw [this, IntKind.wrap_u64]
    generalize 2 ^ y = q at h2
    omega
  rw [h4]
  exact u64_or_nat _ _ hB (by omega)
theorem or_bit_lt (B y : Nat) (hB : B < 18446744073709551616) (hy : y ≤ 33) : B ||| 2 ^ y < 18446744073709551616 := by
  have h2 : (2 : Nat) ^ y < 2 ^ 64 := Nat.pow_lt_pow_right (by decide) (by omega)
  exact Nat.or_lt_two_pow (n := 64) (by omega) h2
theorem grown_set2 (w : World) (a : Addr) (u : Value) : w.grownBy (w.setCell a u).drew (some a.block) := ⟨rfl, rfl, rfl, by simp [World.setCell, World.drew], fun k' hk hne => Below.heap_setCell w a u k' (fun e => hne (by rw [e]))⟩
theorem OutC.grown {f : WI → InsF} {F : Nat → WI} {w w' : World} {g m b : Nat} (h : OutC f F w g m) (hg : w.grownBy w' (some b)) (hne : g ≠ b) : OutC f F w' g m := by
  refine ⟨Nat.lt_of_lt_of_le h.1 hg.size, fun j hj => ?_⟩
  obtain ⟨B, h1, h2, h3⟩ := h.2 j hj
  exact ⟨B, (hg.cell_far ⟨g, j, none⟩ h.1 (fun e => hne (by injection e))).trans h1, h2, h3⟩
/-- What stands while what is written is looked up. -/
structure SeS (w : World) (vb g i : Nat) (VA Z : Array Value) (L : Nat → List Int) (W : World) : Prop where
  v : rowAt W vb = some VA
  z : rowAt W (w.heap.size + 1) = some Z
  l : Below w.heap.size w W
  c : ∃ C : Array Value, rowAt W g = some C ∧ C.size = i ∧ ∀ k, k < i → ∃ B : Nat, C[k]? = some (.int .u64 B) ∧ B < 18446744073709551616 ∧ ∀ x, x < 64 → B.testBit x = decide ((x : Int) ∈ L k)
theorem SeS.past {w : World} {vb g i : Nat} {VA Z : Array Value} {L : Nat → List Int} {W W' : World} (h : SeS w vb g i VA Z L W) (hb : Below W.heap.size W W') : SeS w vb g i VA Z L W' := by
  obtain ⟨C, h1, h2, h3⟩ := h.c
  exact ⟨rowAt_below h.v hb rfl, rowAt_below h.z hb rfl, below_step h.l hb rfl rfl rfl rfl, C, rowAt_below h1 hb rfl, h2, h3⟩
theorem SeS.put {w : World} {vb g i : Nat} {VA Z : Array Value} {L L' : Nat → List Int} {W : World} (h : SeS w vb g i VA Z L W) (j : Nat) (hj : j < i) (B' : Nat) (hB : B' < 18446744073709551616) (hbits : ∀ x, x < 64 → B'.testBit x = decide ((x : Int) ∈ L' j)) (hL : ∀ k, k ≠ j → L' k = L k) (n1 : vb ≠ g) (n3 : w.heap.size + 1 < g) : SeS w vb g i VA Z L' (W.setCell ⟨g, j, none⟩ (.int .u64 B')).drew := by
  obtain ⟨C, h1, h2, h3⟩ := h.c
  refine ⟨rowAt_set_far h.v n1 _ _, rowAt_set_far h.z (by omega) _ _, (h.l.setCell (p := ⟨g, j, none⟩) (by show w.heap.size ≤ g; omega) _).drew, C.setIfInBounds j (.int .u64 B'), rowAt_set h1 j _, by simp [h2], fun k hk => ?_⟩
  rw [Array.getElem?_setIfInBounds]
  by_cases e : j = k
  · subst e
    exact ⟨B', by simp [h2, hj], hB, hbits⟩
  · obtain ⟨B, b1, b2, b3⟩ := h3 k hk
    rw [if_neg e]
    exact ⟨B, b1, b2, fun x hx => by rw [b3 x hx, hL k (fun h => e h.symm)]⟩
def SeeP (F : Nat → WI) (b off n cap : Nat) (r : Rg) (i : Nat) (w : World) (e : Ending) (w' : World) : Prop := ∃ g, e = .returned (.tuple #[.agg (vwA b off n cap r g i), .bool true]) ∧ OutC fOf F w' g i ∧ Below w.heap.size w w'
set_option maxRecDepth 100000 in
set_option maxHeartbeats 8000000 in
theorem see_c (F : Nat → WI) (base : Rg) (b off n cap i : Nat) (w : World) (HW : Hid (WnC w b off n F)) (hin : i < n) (hn : n ≤ 1000000) :
    Calls Try.prog 69 #[.slice (some ⟨b, off, none⟩) n cap, .int .i64 i, .agg base.arr] w (SeeP F b off n cap base i w) := by
  have HB : Hid (rowAt ((w.alloc (.cells base.arr 26)).alloc (.cells #[.slice none 0 0, .int .u64 0, .int .u64 0, .int .u64 0, .int .u64 0, .int .u64 0, .int .u64 0, .int .u64 0, .int .u64 0, .int .u64 0, .int .u64 0, .int .u64 0, .int .u64 0, .int .u64 0, .int .u64 0, .int .u64 0, .int .u64 0, .int .u64 0, .int .u64 0, .int .u64 0, .int .u64 0, .int .u64 0, .int .u64 0, .int .u64 0, .int .u64 0, .int .u64 0, .int .u64 0, .int .u64 0, .int .u64 0, .int .u64 0, .int .u64 0, .int .u64 0, .int .u64 0, .bool false, .bool false, .bool false, .bool false, .slice none 0 0] 126)) w.heap.size = some base.arr) := Lib.hid (rowAt_past (rowAt_new _ _ _) _)
  have HZ : Hid (rowAt ((w.alloc (.cells base.arr 26)).alloc (.cells #[.slice none 0 0, .int .u64 0, .int .u64 0, .int .u64 0, .int .u64 0, .int .u64 0, .int .u64 0, .int .u64 0, .int .u64 0, .int .u64 0, .int .u64 0, .int .u64 0, .int .u64 0, .int .u64 0, .int .u64 0, .int .u64 0, .int .u64 0, .int .u64 0, .int .u64 0, .int .u64 0, .int .u64 0, .int .u64 0, .int .u64 0, .int .u64 0, .int .u64 0, .int .u64 0, .int .u64 0, .int .u64 0, .int .u64 0, .int .u64 0, .int .u64 0, .int .u64 0, .int .u64 0, .bool false, .bool false, .bool false, .bool false, .slice none 0 0] 126)) (w.heap.size + 1) = some #[.slice none 0 0, .int .u64 0, .int .u64 0, .int .u64 0, .int .u64 0, .int .u64 0, .int .u64 0, .int .u64 0, .int .u64 0, .int .u64 0, .int .u64 0, .int .u64 0, .int .u64 0, .int .u64 0, .int .u64 0, .int .u64 0, .int .u64 0, .int .u64 0, .int .u64 0, .int .u64 0, .int .u64 0, .int .u64 0, .int .u64 0, .int .u64 0, .int .u64 0, .int .u64 0, .int .u64 0, .int .u64 0, .int .u64 0, .int .u64 0, .int .u64 0, .int .u64 0, .int .u64 0, .bool false, .bool false, .bool false, .bool false, .slice none 0 0]) := Lib.hid (by have h := rowAt_new (w.alloc (.cells base.arr 26)) #[.slice none 0 0, .int .u64 0, .int .u64 0, .int .u64 0, .int .u64 0, .int .u64 0, .int .u64 0, .int .u64 0, .int .u64 0, .int .u64 0, .int .u64 0, .int .u64 0, .int .u64 0, .int .u64 0, .int .u64 0, .int .u64 0, .int .u64 0, .int .u64 0, .int .u64 0, .int .u64 0, .int .u64 0, .int .u64 0, .int .u64 0, .int .u64 0, .int .u64 0, .int .u64 0, .int .u64 0, .int .u64 0, .int .u64 0, .int .u64 0, .int .u64 0, .int .u64 0, .int .u64 0, .bool false, .bool false, .bool false, .bool false, .slice none 0 0] 126; simpa using h)
  have HL : Hid (Below w.heap.size w ((w.alloc (.cells base.arr 26)).alloc (.cells #[.slice none 0 0, .int .u64 0, .int .u64 0, .int .u64 0, .int .u64 0, .int .u64 0, .int .u64 0, .int .u64 0, .int .u64 0, .int .u64 0, .int .u64 0, .int .u64 0, .int .u64 0, .int .u64 0, .int .u64 0, .int .u64 0, .int .u64 0, .int .u64 0, .int .u64 0, .int .u64 0, .int .u64 0, .int .u64 0, .int .u64 0, .int .u64 0, .int .u64 0, .int .u64 0, .int .u64 0, .int .u64 0, .int .u64 0, .int .u64 0, .int .u64 0, .int .u64 0, .int .u64 0, .bool false, .bool false, .bool false, .bool false, .slice none 0 0] 126))) := Lib.hid (((Below.refl _ _).alloc (Nat.le_refl _) _).alloc (by simp) _)
  have hi1 : ¬ ((i : Int) < 0) := by omega
  have hi2 : ¬ ((n : Int) ≤ (i : Int)) := by omega
  have hi3 : (i : Int) < (n : Int) := by omega
  go_enter Try.func69, Try.ntmps69
  go_upto_region 3 with (fail)
  generalize ((w.alloc (.cells base.arr 26)).alloc (.cells #[.slice none 0 0, .int .u64 0, .int .u64 0, .int .u64 0, .int .u64 0, .int .u64 0, .int .u64 0, .int .u64 0, .int .u64 0, .int .u64 0, .int .u64 0, .int .u64 0, .int .u64 0, .int .u64 0, .int .u64 0, .int .u64 0, .int .u64 0, .int .u64 0, .int .u64 0, .int .u64 0, .int .u64 0, .int .u64 0, .int .u64 0, .int .u64 0, .int .u64 0, .int .u64 0, .int .u64 0, .int .u64 0, .int .u64 0, .int .u64 0, .int .u64 0, .int .u64 0, .int .u64 0, .bool false, .bool false, .bool false, .bool false, .slice none 0 0] 126)) = U at HB HZ HL ⊢
  go_cut [8] from 21 to 25 (fun s8 wx => ∃ vb g, s8 = .pointer (some ⟨vb, 0, none⟩) ∧ rowAt wx vb = some (vwA b off n cap base g i) ∧ rowAt wx g = some (madeCells #[.int .u64 0] i) ∧ rowAt wx (w.heap.size + 1) = some #[.slice none 0 0, .int .u64 0, .int .u64 0, .int .u64 0, .int .u64 0, .int .u64 0, .int .u64 0, .int .u64 0, .int .u64 0, .int .u64 0, .int .u64 0, .int .u64 0, .int .u64 0, .int .u64 0, .int .u64 0, .int .u64 0, .int .u64 0, .int .u64 0, .int .u64 0, .int .u64 0, .int .u64 0, .int .u64 0, .int .u64 0, .int .u64 0, .int .u64 0, .int .u64 0, .int .u64 0, .int .u64 0, .int .u64 0, .int .u64 0, .int .u64 0, .int .u64 0, .int .u64 0, .bool false, .bool false, .bool false, .bool false, .slice none 0 0] ∧ Below w.heap.size w wx ∧ vb ≠ g ∧ w.heap.size + 1 < vb ∧ w.heap.size + 1 < g)
  case first =>
    have hB0 : rowAt U.drew w.heap.size = some base.arr := HB.out
    have hZ0 : rowAt U.drew (w.heap.size + 1) = some #[.slice none 0 0, .int .u64 0, .int .u64 0, .int .u64 0, .int .u64 0, .int .u64 0, .int .u64 0, .int .u64 0, .int .u64 0, .int .u64 0, .int .u64 0, .int .u64 0, .int .u64 0, .int .u64 0, .int .u64 0, .int .u64 0, .int .u64 0, .int .u64 0, .int .u64 0, .int .u64 0, .int .u64 0, .int .u64 0, .int .u64 0, .int .u64 0, .int .u64 0, .int .u64 0, .int .u64 0, .int .u64 0, .int .u64 0, .int .u64 0, .int .u64 0, .int .u64 0, .int .u64 0, .bool false, .bool false, .bool false, .bool false, .slice none 0 0] := HZ.out
    have hL0 : Below w.heap.size w U.drew := HL.out.drew
    have hlz := rowAt_lt hZ0
    have hrl : ∀ w', rowAt w' w.heap.size = some base.arr → (ldAt 26 (.pointer (some ⟨w.heap.size, 0, none⟩))).run Try.prog w' = .ok (.agg base.arr) w' := fun w' h => reg_all h
    refine wp_region_held_drew (S := fun w' => rowAt w' w.heap.size = some base.arr) (by kernel_rfl) hB0 (fun hHeld => ?_)
    generalize U.drew = V at hB0 hZ0 hL0 hlz hHeld ⊢
    refine wpAnyH_take (i := 0) (oi := { dst := some 21, op := Go.Op.move (Go.Operand.tmp 0), type := 22, pos := "win.go:35", after := #[], guard := none }) (v := ?_) rfl (by kernel_rfl) (by kernel_rfl) (by kernel_rfl) (fun _ _ _ h => h) (Or.inl ⟨by rfl, ?_⟩) (by assumption) ?_
    rotate_left
    · (intro w0 hSw; (try dsimp only at hSw); go_split_ands; go_simp; with_reducible rfl)
    try simp only [Act.put, List.setIfInBounds_toArray, List.set_cons_zero, List.set_cons_succ]
    refine wpAnyH_take (i := 1) (oi := { dst := some 22, op := Go.Op.load 26 (Go.Operand.tmp 5), type := 26, pos := "win.go:35", after := #[], guard := none }) (v := ?_) rfl (by kernel_rfl) (by kernel_rfl) (by kernel_rfl) (fun _ _ _ h => h) (Or.inl ⟨by rfl, ?_⟩) (by assumption) ?_
    rotate_left
    · (intro w0 hSw; (try dsimp only at hSw); go_split_ands; go_simp; with_reducible rfl)
    try simp only [Act.put, List.setIfInBounds_toArray, List.set_cons_zero, List.set_cons_succ]
    refine wpAnyH_take (i := 2) (oi := { dst := some 23, op := Go.Op.move (Go.Operand.tmp 1), type := 3, pos := "win.go:35", after := #[], guard := none }) (v := ?_) rfl (by kernel_rfl) (by kernel_rfl) (by kernel_rfl) (fun _ _ _ h => h) (Or.inl ⟨by rfl, ?_⟩) (by assumption) ?_
    rotate_left
    · (intro w0 hSw; (try dsimp only at hSw); go_split_ands; go_simp; with_reducible rfl)
    try simp only [Act.put, List.setIfInBounds_toArray, List.set_cons_zero, List.set_cons_succ]
    refine wpAnyH_ready (rs := [3, 5]) (by kernel_rfl) (by simp) ?_
    refine AllReadyH.cons (o := { dst := some 24, op := Go.Op.makeSlice 124 (Go.Operand.tmp 23) (Go.Operand.tmp 23), type := 124, pos := "win.go:35", after := #[{ on := 2, ground := Go.Ground.data }, { on := 2, ground := Go.Ground.data }], guard := none }) rfl (fun K hK => ?_) ?_
    · have hm := make124 i (by omega) V
      go_simp
      have hgb := rowAt_new V (madeCells #[.int .u64 0] i) 23
      have hvb := rowAt_past hB0 (.cells (madeCells #[.int .u64 0] i) 23)
      have hzb := rowAt_past hZ0 (.cells (madeCells #[.int .u64 0] i) 23)
      have hLb := hL0.alloc hL0.size (.cells (madeCells #[.int .u64 0] i) 23)
      clear hm
      refine hK.out _ _ hvb (fun hHeld => ?_)
      clear hK K
      try simp only [Act.put, List.setIfInBounds_toArray, List.set_cons_zero, List.set_cons_succ]
      refine wpAnyH_take (i := 4) (oi := { dst := some 25, op := Go.Op.build 126 #[(0, Go.Operand.tmp 21), (1, Go.Operand.tmp 22), (2, Go.Operand.tmp 24)], type := 126, pos := "win.go:35", after := #[{ on := 0, ground := Go.Ground.data }, { on := 1, ground := Go.Ground.data }, { on := 3, ground := Go.Ground.data }], guard := none }) (v := ?_) rfl (by kernel_rfl) (by kernel_rfl) (by kernel_rfl) (fun _ _ _ h => h) (Or.inl ⟨by rfl, ?_⟩) (by assumption) ?_
      rotate_left
      · (intro w0 hSw; refine exec_build126 _ _ _ _ _ b off n cap (V.heap.size) i base _ _ _ ?_ ?_ ?_ w0 <;> rfl)
      try simp only [Act.put, List.setIfInBounds_toArray, List.set_cons_zero, List.set_cons_succ]
      refine wpAnyH_ready (rs := [5]) (by kernel_rfl) (by simp) ?_
      refine AllReadyH.cons (o := { dst := some 8, op := Go.Op.alloc 126, type := 0, pos := "win.go:35", after := #[], guard := none }) rfl (fun K hK => ?_) AllReadyH.nil
      go_simp
      have hz := rowAt_new (V.alloc (.cells (madeCells #[.int .u64 0] i) 23)) #[.slice none 0 0, .int .u64 0, .int .u64 0, .int .u64 0, .int .u64 0, .int .u64 0, .int .u64 0, .int .u64 0, .int .u64 0, .int .u64 0, .int .u64 0, .int .u64 0, .int .u64 0, .int .u64 0, .int .u64 0, .int .u64 0, .int .u64 0, .int .u64 0, .int .u64 0, .int .u64 0, .int .u64 0, .int .u64 0, .int .u64 0, .int .u64 0, .int .u64 0, .int .u64 0, .int .u64 0, .int .u64 0, .int .u64 0, .int .u64 0, .int .u64 0, .int .u64 0, .int .u64 0, .bool false, .bool false, .bool false, .bool false, .slice none 0 0] 126
      replace hgb := rowAt_past hgb (.cells #[.slice none 0 0, .int .u64 0, .int .u64 0, .int .u64 0, .int .u64 0, .int .u64 0, .int .u64 0, .int .u64 0, .int .u64 0, .int .u64 0, .int .u64 0, .int .u64 0, .int .u64 0, .int .u64 0, .int .u64 0, .int .u64 0, .int .u64 0, .int .u64 0, .int .u64 0, .int .u64 0, .int .u64 0, .int .u64 0, .int .u64 0, .int .u64 0, .int .u64 0, .int .u64 0, .int .u64 0, .int .u64 0, .int .u64 0, .int .u64 0, .int .u64 0, .int .u64 0, .int .u64 0, .bool false, .bool false, .bool false, .bool false, .slice none 0 0] 126)
      replace hvb := rowAt_past hvb (.cells #[.slice none 0 0, .int .u64 0, .int .u64 0, .int .u64 0, .int .u64 0, .int .u64 0, .int .u64 0, .int .u64 0, .int .u64 0, .int .u64 0, .int .u64 0, .int .u64 0, .int .u64 0, .int .u64 0, .int .u64 0, .int .u64 0, .int .u64 0, .int .u64 0, .int .u64 0, .int .u64 0, .int .u64 0, .int .u64 0, .int .u64 0, .int .u64 0, .int .u64 0, .int .u64 0, .int .u64 0, .int .u64 0, .int .u64 0, .int .u64 0, .int .u64 0, .int .u64 0, .int .u64 0, .bool false, .bool false, .bool false, .bool false, .slice none 0 0] 126)
      replace hzb := rowAt_past hzb (.cells #[.slice none 0 0, .int .u64 0, .int .u64 0, .int .u64 0, .int .u64 0, .int .u64 0, .int .u64 0, .int .u64 0, .int .u64 0, .int .u64 0, .int .u64 0, .int .u64 0, .int .u64 0, .int .u64 0, .int .u64 0, .int .u64 0, .int .u64 0, .int .u64 0, .int .u64 0, .int .u64 0, .int .u64 0, .int .u64 0, .int .u64 0, .int .u64 0, .int .u64 0, .int .u64 0, .int .u64 0, .int .u64 0, .int .u64 0, .int .u64 0, .int .u64 0, .int .u64 0, .int .u64 0, .bool false, .bool false, .bool false, .bool false, .slice none 0 0] 126)
      replace hLb := hLb.alloc hLb.size (.cells #[.slice none 0 0, .int .u64 0, .int .u64 0, .int .u64 0, .int .u64 0, .int .u64 0, .int .u64 0, .int .u64 0, .int .u64 0, .int .u64 0, .int .u64 0, .int .u64 0, .int .u64 0, .int .u64 0, .int .u64 0, .int .u64 0, .int .u64 0, .int .u64 0, .int .u64 0, .int .u64 0, .int .u64 0, .int .u64 0, .int .u64 0, .int .u64 0, .int .u64 0, .int .u64 0, .int .u64 0, .int .u64 0, .int .u64 0, .int .u64 0, .int .u64 0, .int .u64 0, .int .u64 0, .bool false, .bool false, .bool false, .bool false, .slice none 0 0] 126)
      have hsz : (V.alloc (.cells (madeCells #[.int .u64 0] i) 23)).heap.size = V.heap.size + 1 := by simp
      rw [hsz] at hz
      refine hK.out _ _ hvb (fun hHeld => ?_)
      clear hK K
      try simp only [Act.put, List.setIfInBounds_toArray, List.set_cons_zero, List.set_cons_succ]
      refine wpAnyH_ready (rs := [6]) (by kernel_rfl) (by simp) ?_
      refine AllReadyH.cons (o := { dst := none, op := Go.Op.store 126 (Go.Operand.tmp 8) (Go.Operand.tmp 25), type := 0, pos := "win.go:35", after := #[{ on := 5, ground := Go.Ground.data }, { on := 4, ground := Go.Ground.data }, { on := 0, ground := Go.Ground.phase }, { on := 1, ground := Go.Ground.phase }, { on := 2, ground := Go.Ground.phase }, { on := 3, ground := Go.Ground.phase }, { on := 4, ground := Go.Ground.phase }, { on := 5, ground := Go.Ground.phase }], guard := none }) rfl (fun K hK => ?_) AllReadyH.nil
      have hs9 := st_vw (b := b) (off := off) (n := n) (cap := cap) (g := V.heap.size) (m := i) (r := base) hz (by rfl)
      generalize hVA : vwA b off n cap base (V.heap.size) i = VA at hs9 ⊢
      go_simp
      have hR9 := Lib.hid (setCells_all (D := VA) hz (by rw [← hVA, vwA_size]; rfl))
      have hv9 := rowAt_grown hvb (setCells_grown VA.toList 0 _ (V.heap.size + 1)) (by omega)
      have hg9 := rowAt_grown hgb (setCells_grown VA.toList 0 _ (V.heap.size + 1)) (by omega)
      have hz9 := rowAt_grown hzb (setCells_grown VA.toList 0 _ (V.heap.size + 1)) (by omega)
      have hL9 := Lib.hid (grown_below hLb (setCells_grown VA.toList 0 _ (V.heap.size + 1)) (by omega))
      refine hK.out _ _ hv9 (fun hHeld => ?_)
      clear hK K
      try simp only [Act.put, List.setIfInBounds_toArray, List.set_cons_zero, List.set_cons_succ]
      subst hVA
      refine wpAnyH_done (by kernel_rfl) ?_ _
      clear hHeld
      go_wp2_with fail
      go_meet
      case rel => exact ⟨V.heap.size + 1, V.heap.size, rfl, hR9.out, hg9, hz9, hL9.out, by omega, by omega, by omega⟩
    · refine AllReadyH.cons (o := { dst := some 8, op := Go.Op.alloc 126, type := 0, pos := "win.go:35", after := #[], guard := none }) rfl (fun K hK => ?_) AllReadyH.nil
      go_simp
      have hz := rowAt_new V #[.slice none 0 0, .int .u64 0, .int .u64 0, .int .u64 0, .int .u64 0, .int .u64 0, .int .u64 0, .int .u64 0, .int .u64 0, .int .u64 0, .int .u64 0, .int .u64 0, .int .u64 0, .int .u64 0, .int .u64 0, .int .u64 0, .int .u64 0, .int .u64 0, .int .u64 0, .int .u64 0, .int .u64 0, .int .u64 0, .int .u64 0, .int .u64 0, .int .u64 0, .int .u64 0, .int .u64 0, .int .u64 0, .int .u64 0, .int .u64 0, .int .u64 0, .int .u64 0, .int .u64 0, .bool false, .bool false, .bool false, .bool false, .slice none 0 0] 126
      have hvb := rowAt_past hB0 (.cells #[.slice none 0 0, .int .u64 0, .int .u64 0, .int .u64 0, .int .u64 0, .int .u64 0, .int .u64 0, .int .u64 0, .int .u64 0, .int .u64 0, .int .u64 0, .int .u64 0, .int .u64 0, .int .u64 0, .int .u64 0, .int .u64 0, .int .u64 0, .int .u64 0, .int .u64 0, .int .u64 0, .int .u64 0, .int .u64 0, .int .u64 0, .int .u64 0, .int .u64 0, .int .u64 0, .int .u64 0, .int .u64 0, .int .u64 0, .int .u64 0, .int .u64 0, .int .u64 0, .int .u64 0, .bool false, .bool false, .bool false, .bool false, .slice none 0 0] 126)
      have hzb := rowAt_past hZ0 (.cells #[.slice none 0 0, .int .u64 0, .int .u64 0, .int .u64 0, .int .u64 0, .int .u64 0, .int .u64 0, .int .u64 0, .int .u64 0, .int .u64 0, .int .u64 0, .int .u64 0, .int .u64 0, .int .u64 0, .int .u64 0, .int .u64 0, .int .u64 0, .int .u64 0, .int .u64 0, .int .u64 0, .int .u64 0, .int .u64 0, .int .u64 0, .int .u64 0, .int .u64 0, .int .u64 0, .int .u64 0, .int .u64 0, .int .u64 0, .int .u64 0, .int .u64 0, .int .u64 0, .int .u64 0, .bool false, .bool false, .bool false, .bool false, .slice none 0 0] 126)
      have hLb := hL0.alloc hL0.size (.cells #[.slice none 0 0, .int .u64 0, .int .u64 0, .int .u64 0, .int .u64 0, .int .u64 0, .int .u64 0, .int .u64 0, .int .u64 0, .int .u64 0, .int .u64 0, .int .u64 0, .int .u64 0, .int .u64 0, .int .u64 0, .int .u64 0, .int .u64 0, .int .u64 0, .int .u64 0, .int .u64 0, .int .u64 0, .int .u64 0, .int .u64 0, .int .u64 0, .int .u64 0, .int .u64 0, .int .u64 0, .int .u64 0, .int .u64 0, .int .u64 0, .int .u64 0, .int .u64 0, .int .u64 0, .bool false, .bool false, .bool false, .bool false, .slice none 0 0] 126)
      refine hK.out _ _ hvb (fun hHeld => ?_)
      clear hK K
      try simp only [Act.put, List.setIfInBounds_toArray, List.set_cons_zero, List.set_cons_succ]
      refine wpAnyH_ready (rs := [3]) (by kernel_rfl) (by simp) ?_
      refine AllReadyH.cons (o := { dst := some 24, op := Go.Op.makeSlice 124 (Go.Operand.tmp 23) (Go.Operand.tmp 23), type := 124, pos := "win.go:35", after := #[{ on := 2, ground := Go.Ground.data }, { on := 2, ground := Go.Ground.data }], guard := none }) rfl (fun K hK => ?_) AllReadyH.nil
      have hm := make124 i (by omega) (V.alloc (.cells #[.slice none 0 0, .int .u64 0, .int .u64 0, .int .u64 0, .int .u64 0, .int .u64 0, .int .u64 0, .int .u64 0, .int .u64 0, .int .u64 0, .int .u64 0, .int .u64 0, .int .u64 0, .int .u64 0, .int .u64 0, .int .u64 0, .int .u64 0, .int .u64 0, .int .u64 0, .int .u64 0, .int .u64 0, .int .u64 0, .int .u64 0, .int .u64 0, .int .u64 0, .int .u64 0, .int .u64 0, .int .u64 0, .int .u64 0, .int .u64 0, .int .u64 0, .int .u64 0, .int .u64 0, .bool false, .bool false, .bool false, .bool false, .slice none 0 0] 126))
      have hsz : (V.alloc (.cells #[.slice none 0 0, .int .u64 0, .int .u64 0, .int .u64 0, .int .u64 0, .int .u64 0, .int .u64 0, .int .u64 0, .int .u64 0, .int .u64 0, .int .u64 0, .int .u64 0, .int .u64 0, .int .u64 0, .int .u64 0, .int .u64 0, .int .u64 0, .int .u64 0, .int .u64 0, .int .u64 0, .int .u64 0, .int .u64 0, .int .u64 0, .int .u64 0, .int .u64 0, .int .u64 0, .int .u64 0, .int .u64 0, .int .u64 0, .int .u64 0, .int .u64 0, .int .u64 0, .int .u64 0, .bool false, .bool false, .bool false, .bool false, .slice none 0 0] 126)).heap.size = V.heap.size + 1 := by simp
      rw [hsz] at hm
      go_simp
      have hgb := rowAt_new (V.alloc (.cells #[.slice none 0 0, .int .u64 0, .int .u64 0, .int .u64 0, .int .u64 0, .int .u64 0, .int .u64 0, .int .u64 0, .int .u64 0, .int .u64 0, .int .u64 0, .int .u64 0, .int .u64 0, .int .u64 0, .int .u64 0, .int .u64 0, .int .u64 0, .int .u64 0, .int .u64 0, .int .u64 0, .int .u64 0, .int .u64 0, .int .u64 0, .int .u64 0, .int .u64 0, .int .u64 0, .int .u64 0, .int .u64 0, .int .u64 0, .int .u64 0, .int .u64 0, .int .u64 0, .int .u64 0, .bool false, .bool false, .bool false, .bool false, .slice none 0 0] 126)) (madeCells #[.int .u64 0] i) 23
      rw [hsz] at hgb
      replace hz := rowAt_past hz (.cells (madeCells #[.int .u64 0] i) 23)
      replace hvb := rowAt_past hvb (.cells (madeCells #[.int .u64 0] i) 23)
      replace hzb := rowAt_past hzb (.cells (madeCells #[.int .u64 0] i) 23)
      replace hLb := hLb.alloc hLb.size (.cells (madeCells #[.int .u64 0] i) 23)
      clear hm
      refine hK.out _ _ hvb (fun hHeld => ?_)
      clear hK K
      try simp only [Act.put, List.setIfInBounds_toArray, List.set_cons_zero, List.set_cons_succ]
      refine wpAnyH_take (i := 4) (oi := { dst := some 25, op := Go.Op.build 126 #[(0, Go.Operand.tmp 21), (1, Go.Operand.tmp 22), (2, Go.Operand.tmp 24)], type := 126, pos := "win.go:35", after := #[{ on := 0, ground := Go.Ground.data }, { on := 1, ground := Go.Ground.data }, { on := 3, ground := Go.Ground.data }], guard := none }) (v := ?_) rfl (by kernel_rfl) (by kernel_rfl) (by kernel_rfl) (fun _ _ _ h => h) (Or.inl ⟨by rfl, ?_⟩) (by assumption) ?_
      rotate_left
      · (intro w0 hSw; refine exec_build126 _ _ _ _ _ b off n cap (V.heap.size + 1) i base _ _ _ ?_ ?_ ?_ w0 <;> rfl)
      try simp only [Act.put, List.setIfInBounds_toArray, List.set_cons_zero, List.set_cons_succ]
      refine wpAnyH_ready (rs := [6]) (by kernel_rfl) (by simp) ?_
      refine AllReadyH.cons (o := { dst := none, op := Go.Op.store 126 (Go.Operand.tmp 8) (Go.Operand.tmp 25), type := 0, pos := "win.go:35", after := #[{ on := 5, ground := Go.Ground.data }, { on := 4, ground := Go.Ground.data }, { on := 0, ground := Go.Ground.phase }, { on := 1, ground := Go.Ground.phase }, { on := 2, ground := Go.Ground.phase }, { on := 3, ground := Go.Ground.phase }, { on := 4, ground := Go.Ground.phase }, { on := 5, ground := Go.Ground.phase }], guard := none }) rfl (fun K hK => ?_) AllReadyH.nil
      have hs9 := st_vw (b := b) (off := off) (n := n) (cap := cap) (g := V.heap.size + 1) (m := i) (r := base) hz (by rfl)
      generalize hVA : vwA b off n cap base (V.heap.size + 1) i = VA at hs9 ⊢
      go_simp
      have hR9 := Lib.hid (setCells_all (D := VA) hz (by rw [← hVA, vwA_size]; rfl))
      have hv9 := rowAt_grown hvb (setCells_grown VA.toList 0 _ (V.heap.size)) (by omega)
      have hg9 := rowAt_grown hgb (setCells_grown VA.toList 0 _ (V.heap.size)) (by omega)
      have hz9 := rowAt_grown hzb (setCells_grown VA.toList 0 _ (V.heap.size)) (by omega)
      have hL9 := Lib.hid (grown_below hLb (setCells_grown VA.toList 0 _ (V.heap.size)) (by omega))
      refine hK.out _ _ hv9 (fun hHeld => ?_)
      clear hK K
      try simp only [Act.put, List.setIfInBounds_toArray, List.set_cons_zero, List.set_cons_succ]
      subst hVA
      refine wpAnyH_done (by kernel_rfl) ?_ _
      clear hHeld
      go_wp2_with fail
      go_meet
      case rel => exact ⟨V.heap.size, V.heap.size + 1, rfl, hR9.out, hg9, hz9, hL9.out, by omega, by omega, by omega⟩
  case rest =>
    obtain ⟨vb, g, hs8, hV, hG, hZ, hLw, n1, n2, n3⟩ := hcut
    subst hs8
    obtain ⟨VA, hVA⟩ : ∃ VA, VA = vwA b off n cap base g i := ⟨_, rfl⟩
    rw [← hVA] at hV
    have HVA := Lib.hid hVA
    clear hVA
    have hva0 : VA[37]? = some (.slice (some ⟨g, 0, none⟩) i i) := by rw [HVA.out]; exact vwA_37 _ _ _ _ _ _ _
    have HVA37 := Lib.hid hva0
    clear hva0
    have HS0 : Hid (SeS w vb g i VA #[.slice none 0 0, .int .u64 0, .int .u64 0, .int .u64 0, .int .u64 0, .int .u64 0, .int .u64 0, .int .u64 0, .int .u64 0, .int .u64 0, .int .u64 0, .int .u64 0, .int .u64 0, .int .u64 0, .int .u64 0, .int .u64 0, .int .u64 0, .int .u64 0, .int .u64 0, .int .u64 0, .int .u64 0, .int .u64 0, .int .u64 0, .int .u64 0, .int .u64 0, .int .u64 0, .int .u64 0, .int .u64 0, .int .u64 0, .int .u64 0, .int .u64 0, .int .u64 0, .int .u64 0, .bool false, .bool false, .bool false, .bool false, .slice none 0 0] (fun _ => []) wc) := Lib.hid ⟨hV, hZ, hLw, _, hG, by rw [size_madeCells], fun k hk => ⟨0, made_at k i hk, by decide, fun x _ => by simp⟩⟩
    clear hV hZ hLw hG HB HZ HL
    go_wp2
    go_loopw [27] (fun s27 W => ∃ j : Nat, j ≤ i ∧ s27 = .int .i64 j ∧ SeS w vb g i VA #[.slice none 0 0, .int .u64 0, .int .u64 0, .int .u64 0, .int .u64 0, .int .u64 0, .int .u64 0, .int .u64 0, .int .u64 0, .int .u64 0, .int .u64 0, .int .u64 0, .int .u64 0, .int .u64 0, .int .u64 0, .int .u64 0, .int .u64 0, .int .u64 0, .int .u64 0, .int .u64 0, .int .u64 0, .int .u64 0, .int .u64 0, .int .u64 0, .int .u64 0, .int .u64 0, .int .u64 0, .int .u64 0, .int .u64 0, .int .u64 0, .int .u64 0, .int .u64 0, .int .u64 0, .bool false, .bool false, .bool false, .bool false, .slice none 0 0] (fun k => if k < j then (fOf (F k)).outL else []) W) (fun s27 _ => i - (intOf s27).toNat)
    case atStart => exact ⟨0, Nat.zero_le _, rfl, by simpa using HS0.out⟩
    case round =>
      obtain ⟨j, hj, rfl, hS⟩ := hrel
      have HSr := Lib.hid hS
      clear hS HS0
      by_cases hlt : j < i
      · have hjn : j < n := by omega
        have HWr := Lib.hid (HW.out.below HSr.out.l)
        have HLI := Lib.hid (HWr.out.loadIns j hjn)
        obtain ⟨T, hT1, hT2, hT3, hT4⟩ := (fOf_good (F j)).outl
        have HT1 := Lib.hid hT1
        have HT3 := Lib.hid hT3
        have HT4 := Lib.hid hT4
        clear hT1 hT3 hT4
        go_wp2_with (first | (refine wpl_load rfl 29 _ rfl b (off + j * 46 + 1) rfl (F j).ins HLI.out ?_) | (go_at_call 149; refine (HT4.out _).mono ?_; rintro e w2 ⟨v, rfl, hO, hN, hb⟩; obtain ⟨a, cp, rfl, hcp, HC⟩ := rowp_parts hO; have HS2 : Hid (SeS w vb g i VA #[.slice none 0 0, .int .u64 0, .int .u64 0, .int .u64 0, .int .u64 0, .int .u64 0, .int .u64 0, .int .u64 0, .int .u64 0, .int .u64 0, .int .u64 0, .int .u64 0, .int .u64 0, .int .u64 0, .int .u64 0, .int .u64 0, .int .u64 0, .int .u64 0, .int .u64 0, .int .u64 0, .int .u64 0, .int .u64 0, .int .u64 0, .int .u64 0, .int .u64 0, .int .u64 0, .int .u64 0, .int .u64 0, .int .u64 0, .int .u64 0, .int .u64 0, .int .u64 0, .int .u64 0, .bool false, .bool false, .bool false, .bool false, .slice none 0 0] (fun k => if k < j then (fOf (F k)).outL else []) w2) := Lib.hid (HSr.out.past hb); have hzz := hb.size; clear hb hO hN))
        have HSI : Hid (SeS w vb g i VA #[.slice none 0 0, .int .u64 0, .int .u64 0, .int .u64 0, .int .u64 0, .int .u64 0, .int .u64 0, .int .u64 0, .int .u64 0, .int .u64 0, .int .u64 0, .int .u64 0, .int .u64 0, .int .u64 0, .int .u64 0, .int .u64 0, .int .u64 0, .int .u64 0, .int .u64 0, .int .u64 0, .int .u64 0, .int .u64 0, .int .u64 0, .int .u64 0, .int .u64 0, .int .u64 0, .int .u64 0, .int .u64 0, .int .u64 0, .int .u64 0, .int .u64 0, .int .u64 0, .int .u64 0, .bool false, .bool false, .bool false, .bool false, .slice none 0 0] (fun k => if k < j then (fOf (F k)).outL else if k = j then (puts T).take 0 else []) w2) := Lib.hid (by simpa using HS2.out)
        have hln : (puts T).length ≤ 6 := Nat.le_trans (Fr.puts_length T) hT2
        obtain ⟨ln, hle⟩ : ∃ ln, (puts T).length = ln := ⟨_, rfl⟩
        rw [hle] at hcp hln ⊢
        have HLE := Lib.hid hle
        clear hle
        have hgl : g < wr.heap.size := by obtain ⟨C, hC, _⟩ := HSr.out.c; exact rowAt_lt hC
        go_loopw [37] (fun s37 W => ∃ p : Nat, p ≤ ln ∧ s37 = .int .i64 p ∧ w2.grownBy W (some g) ∧ SeS w vb g i VA #[.slice none 0 0, .int .u64 0, .int .u64 0, .int .u64 0, .int .u64 0, .int .u64 0, .int .u64 0, .int .u64 0, .int .u64 0, .int .u64 0, .int .u64 0, .int .u64 0, .int .u64 0, .int .u64 0, .int .u64 0, .int .u64 0, .int .u64 0, .int .u64 0, .int .u64 0, .int .u64 0, .int .u64 0, .int .u64 0, .int .u64 0, .int .u64 0, .int .u64 0, .int .u64 0, .int .u64 0, .int .u64 0, .int .u64 0, .int .u64 0, .int .u64 0, .int .u64 0, .int .u64 0, .bool false, .bool false, .bool false, .bool false, .slice none 0 0] (fun k => if k < j then (fOf (F k)).outL else if k = j then (puts T).take p else []) W) (fun s37 _ => ln - (intOf s37).toNat)
        case atStart => exact ⟨0, Nat.zero_le _, rfl, ⟨rfl, rfl, rfl, Nat.le_refl _, fun _ _ _ => rfl⟩, HSI.out⟩
        case round =>
          obtain ⟨p, hp, rfl, hgr, hSp⟩ := hrel
          have HGR := Lib.hid hgr
          have HSP := Lib.hid hSp
          clear hgr hSp HSI
          by_cases hpl : p < ln
          · obtain ⟨x, hx⟩ : ∃ x, (puts T)[p]? = some x := ⟨_, List.getElem?_eq_getElem (by rw [HLE.out]; exact hpl)⟩
            have hxm : x ∈ T := by
              have := List.mem_of_getElem? hx
              exact ((mem_puts x T).1 this).2
            obtain ⟨x1, x2⟩ := HT3.out x hxm
            obtain ⟨y, rfl⟩ : ∃ y : Nat, x = y := ⟨x.toNat, by omega⟩
            obtain ⟨bb, ha, hb1, hb2, hcell⟩ := HC.out p y hx
            subst ha
            have cx := (HGR.out.cell_far ⟨bb, p, none⟩ hb2 (fun e => by injection e with e; simp only at e; omega)).trans hcell
            have HX := Lib.hid hx
            clear hx hxm hcell HC
            obtain ⟨C, hC1, hC2, hC3⟩ := HSP.out.c
            obtain ⟨B, hB1, hB2, hB3⟩ := hC3 j hlt
            have HCg := Lib.hid hC1
            have HC2 := Lib.hid hC2
            have HC3 := Lib.hid hC3
            have HB3 := Lib.hid hB3
            have kB := (rowAt_cell hC1 j).trans hB1
            have fB := rowAt_frz hC1 j
            have kv := (rowAt_cell HSP.out.v 37).trans HVA37.out
            clear hC1 hC2 hC3 hB1 hB3
            go_upto_region 10 with (fail)
            have kvd : wr.drew.cell? ⟨vb, 37, none⟩ = some (.slice (some ⟨g, 0, none⟩) i i) := kv
            have kBd : wr.drew.cell? ⟨g, j, none⟩ = some (.int .u64 B) := kB
            have fBd : wr.drew.frozen? ⟨g, j, none⟩ = false := fB
            clear kv kB fB
            refine wp_region_held_drew (S := fun w' => w'.cell? ⟨vb, 37, none⟩ = some (.slice (some ⟨g, 0, none⟩) i i)) (by kernel_rfl) kvd (fun hHeld => ?_)
            refine wpAnyH_take (i := 0) (oi := { dst := some 41, op := Go.Op.fieldAddr 126 (Go.Operand.tmp 8) 2, type := 0, pos := "win.go:38", after := #[], guard := none }) (v := ?_) rfl (by kernel_rfl) (by kernel_rfl) (by kernel_rfl) (fun _ _ _ h => h) (Or.inl ⟨by rfl, ?_⟩) (by assumption) ?_
            rotate_left
            · (intro w0 hSw; (try dsimp only at hSw); go_split_ands; go_simp; with_reducible rfl)
            try simp only [Act.put, List.setIfInBounds_toArray, List.set_cons_zero, List.set_cons_succ]
            refine wpAnyH_take (i := 1) (oi := { dst := some 42, op := Go.Op.load 124 (Go.Operand.tmp 41), type := 124, pos := "win.go:38", after := #[{ on := 0, ground := Go.Ground.data }], guard := none }) (v := ?_) rfl (by kernel_rfl) (by kernel_rfl) (by kernel_rfl) (fun _ _ _ h => h) (Or.inl ⟨by rfl, ?_⟩) (by assumption) ?_
            rotate_left
            · (intro w0 hSw; (try dsimp only at hSw); go_split_ands; go_simp; with_reducible rfl)
            try simp only [Act.put, List.setIfInBounds_toArray, List.set_cons_zero, List.set_cons_succ]
            refine wpAnyH_take (i := 2) (oi := { dst := some 43, op := Go.Op.move (Go.Operand.tmp 9), type := 3, pos := "win.go:38", after := #[], guard := none }) (v := ?_) rfl (by kernel_rfl) (by kernel_rfl) (by kernel_rfl) (fun _ _ _ h => h) (Or.inl ⟨by rfl, ?_⟩) (by assumption) ?_
            rotate_left
            · (intro w0 hSw; (try dsimp only at hSw); go_split_ands; go_simp; with_reducible rfl)
            try simp only [Act.put, List.setIfInBounds_toArray, List.set_cons_zero, List.set_cons_succ]
            refine wpAnyH_take (i := 3) (oi := { dst := some 44, op := Go.Op.indexAddr 124 (Go.Operand.tmp 42) (Go.Operand.tmp 43), type := 0, pos := "win.go:38", after := #[{ on := 1, ground := Go.Ground.data }, { on := 2, ground := Go.Ground.data }], guard := none }) (v := ?_) rfl (by kernel_rfl) (by kernel_rfl) (by kernel_rfl) (fun _ _ _ h => h) (Or.inl ⟨by rfl, ?_⟩) (by assumption) ?_
            rotate_left
            · (intro w0 hSw; (try dsimp only at hSw); go_split_ands; go_simp; with_reducible rfl)
            try simp only [Act.put, List.setIfInBounds_toArray, List.set_cons_zero, List.set_cons_succ]
            refine wpAnyH_take (i := 5) (oi := { dst := some 46, op := Go.Op.move (Go.Operand.tmp 11), type := 3, pos := "win.go:38", after := #[], guard := none }) (v := ?_) rfl (by kernel_rfl) (by kernel_rfl) (by kernel_rfl) (fun _ _ _ h => h) (Or.inl ⟨by rfl, ?_⟩) (by assumption) ?_
            rotate_left
            · (intro w0 hSw; (try dsimp only at hSw); go_split_ands; go_simp; with_reducible rfl)
            try simp only [Act.put, List.setIfInBounds_toArray, List.set_cons_zero, List.set_cons_succ]
            refine wpAnyH_take (i := 6) (oi := { dst := some 47, op := Go.Op.binOp Go.BinOp.shl 23 (Go.Operand.const (Go.Value.int Go.IntKind.u64 1)) (Go.Operand.tmp 46) 3, type := 23, pos := "win.go:38", after := #[{ on := 5, ground := Go.Ground.data }], guard := none }) (v := ?_) rfl (by kernel_rfl) (by kernel_rfl) (by kernel_rfl) (fun _ _ _ h => h) (Or.inl ⟨by rfl, ?_⟩) (by assumption) ?_
            rotate_left
            · (intro w0 hSw; (try dsimp only at hSw); go_split_ands; go_simp; with_reducible rfl)
            try simp only [Act.put, List.setIfInBounds_toArray, List.set_cons_zero, List.set_cons_succ]
            refine wpAnyH_ready (rs := [4]) (by kernel_rfl) (by simp) ?_
            refine AllReadyH.cons (o := { dst := some 45, op := Go.Op.load 23 (Go.Operand.tmp 44), type := 23, pos := "win.go:38", after := #[{ on := 3, ground := Go.Ground.data }], guard := none }) rfl (fun K hK => ?_) AllReadyH.nil
            go_simp
            refine hK.out _ _ kvd (fun hHeld => ?_)
            clear hK K
            try simp only [Act.put, List.setIfInBounds_toArray, List.set_cons_zero, List.set_cons_succ]
            refine wpAnyH_take (i := 7) (oi := { dst := some 48, op := Go.Op.binOp Go.BinOp.or 23 (Go.Operand.tmp 45) (Go.Operand.tmp 47) 23, type := 23, pos := "win.go:38", after := #[{ on := 4, ground := Go.Ground.data }, { on := 6, ground := Go.Ground.data }], guard := none }) (v := ?_) rfl (by kernel_rfl) (by kernel_rfl) (by kernel_rfl) (fun _ _ _ h => h) (Or.inl ⟨by rfl, ?_⟩) (by assumption) ?_
            rotate_left
            · (intro w0 hSw; (try dsimp only at hSw); go_split_ands; go_simp; with_reducible rfl)
            try simp only [Act.put, List.setIfInBounds_toArray, List.set_cons_zero, List.set_cons_succ]
            refine wpAnyH_take (i := 8) (oi := { dst := some 49, op := Go.Op.indexAddr 124 (Go.Operand.tmp 42) (Go.Operand.tmp 43), type := 0, pos := "win.go:38", after := #[{ on := 1, ground := Go.Ground.data }, { on := 2, ground := Go.Ground.data }, { on := 0, ground := Go.Ground.phase }, { on := 1, ground := Go.Ground.phase }, { on := 2, ground := Go.Ground.phase }, { on := 3, ground := Go.Ground.phase }, { on := 4, ground := Go.Ground.phase }, { on := 5, ground := Go.Ground.phase }, { on := 6, ground := Go.Ground.phase }, { on := 7, ground := Go.Ground.phase }], guard := none }) (v := ?_) rfl (by kernel_rfl) (by kernel_rfl) (by kernel_rfl) (fun _ _ _ h => h) (Or.inl ⟨by rfl, ?_⟩) (by assumption) ?_
            rotate_left
            · (intro w0 hSw; (try dsimp only at hSw); go_split_ands; go_simp; with_reducible rfl)
            try simp only [Act.put, List.setIfInBounds_toArray, List.set_cons_zero, List.set_cons_succ]
            refine wpAnyH_ready (rs := [9]) (by kernel_rfl) (by simp) ?_
            refine AllReadyH.cons (o := { dst := none, op := Go.Op.store 23 (Go.Operand.tmp 49) (Go.Operand.tmp 48), type := 0, pos := "win.go:38", after := #[{ on := 8, ground := Go.Ground.data }, { on := 7, ground := Go.Ground.data }, { on := 0, ground := Go.Ground.phase }, { on := 1, ground := Go.Ground.phase }, { on := 2, ground := Go.Ground.phase }, { on := 3, ground := Go.Ground.phase }, { on := 4, ground := Go.Ground.phase }, { on := 5, ground := Go.Ground.phase }, { on := 6, ground := Go.Ground.phase }, { on := 7, ground := Go.Ground.phase }], guard := none }) rfl (fun K hK => ?_) AllReadyH.nil
            go_simp
            have hor := or_bit B y hB2 (by omega)
            rw [hor]
            have HSN : Hid (SeS w vb g i VA #[.slice none 0 0, .int .u64 0, .int .u64 0, .int .u64 0, .int .u64 0, .int .u64 0, .int .u64 0, .int .u64 0, .int .u64 0, .int .u64 0, .int .u64 0, .int .u64 0, .int .u64 0, .int .u64 0, .int .u64 0, .int .u64 0, .int .u64 0, .int .u64 0, .int .u64 0, .int .u64 0, .int .u64 0, .int .u64 0, .int .u64 0, .int .u64 0, .int .u64 0, .int .u64 0, .int .u64 0, .int .u64 0, .int .u64 0, .int .u64 0, .int .u64 0, .int .u64 0, .int .u64 0, .bool false, .bool false, .bool false, .bool false, .slice none 0 0] (fun k => if k < j then (fOf (F k)).outL else if k = j then (puts T).take (p + 1) else []) (wr.setCell ⟨g, j, none⟩ (.int .u64 ((B ||| 2 ^ y : Nat) : Int))).drew) := Lib.hid (SeS.put HSP.out j hlt (B ||| 2 ^ y) (or_bit_lt B y hB2 (by omega)) (fun x hx => by
              rw [Nat.testBit_or, Nat.testBit_two_pow, HB3.out x hx]
              simp only [Nat.lt_irrefl, if_false, if_true]
              rw [List.take_add_one, HX.out]
              simp [List.mem_append, eq_comm]
              rw [show decide ((y : Int) = (x : Int)) = decide (y = x) from decide_eq_decide.2 (by omega)]
              ) (fun k hk => by simp [hk]) n1 n3)
            have HGN : Hid (w2.grownBy (wr.setCell ⟨g, j, none⟩ (.int .u64 ((B ||| 2 ^ y : Nat) : Int))).drew (some g)) := Lib.hid (HGR.out.trans (grown_set2 _ ⟨g, j, none⟩ _))
            refine hK.out _ _ ((rowAt_cell HSN.out.v 37).trans HVA37.out) (fun hHeld => ?_)
            clear hK K hor kvd kBd fBd
            try simp only [Act.put, List.setIfInBounds_toArray, List.set_cons_zero, List.set_cons_succ]
            refine wpAnyH_done (by kernel_rfl) ?_ _
            clear hHeld
            go_wp2_with fail
            go_roundw
            case rel => exact ⟨p + 1, by omega, by go_num, HGN.out, HSN.out⟩
            case measure => simp [intOf]; omega
          · have hpe : p = ln := by omega
            have HPE : Hid ((puts T).take p = (fOf (F j)).outL) := Lib.hid (by rw [HT1.out, hpe, ← HLE.out, List.take_length])
            have HSN : Hid (SeS w vb g i VA #[.slice none 0 0, .int .u64 0, .int .u64 0, .int .u64 0, .int .u64 0, .int .u64 0, .int .u64 0, .int .u64 0, .int .u64 0, .int .u64 0, .int .u64 0, .int .u64 0, .int .u64 0, .int .u64 0, .int .u64 0, .int .u64 0, .int .u64 0, .int .u64 0, .int .u64 0, .int .u64 0, .int .u64 0, .int .u64 0, .int .u64 0, .int .u64 0, .int .u64 0, .int .u64 0, .int .u64 0, .int .u64 0, .int .u64 0, .int .u64 0, .int .u64 0, .int .u64 0, .int .u64 0, .bool false, .bool false, .bool false, .bool false, .slice none 0 0] (fun k => if k < j + 1 then (fOf (F k)).outL else []) wr) := Lib.hid (by
              have hE : (fun k => if k < j + 1 then (fOf (F k)).outL else []) = (fun k => if k < j then (fOf (F k)).outL else if k = j then (puts T).take p else []) := by
                funext k
                by_cases h1 : k < j
                · rw [if_pos h1, if_pos (by omega)]
                · by_cases h2 : k = j
                  · subst h2; rw [if_neg h1, if_pos rfl, if_pos (by omega), HPE.out]
                  · rw [if_neg h1, if_neg h2, if_neg (by omega)]
              rw [hE]; exact HSP.out)
            clear hpe
            go_wp2_with fail
            go_roundw
            case rel => exact ⟨j + 1, by omega, by go_num, HSN.out⟩
            case measure => simp [intOf]; omega
      · have hje : j = i := by omega
        subst hje
        have HO : Hid (OutC fOf F wr g j) := Lib.hid (by
          obtain ⟨C, h1, h2, h3⟩ := HSr.out.c
          refine ⟨rowAt_lt h1, fun k hk => ?_⟩
          obtain ⟨B, b1, b2, b3⟩ := h3 k hk
          exact ⟨B, (rowAt_cell h1 k).trans b1, b2, fun x hx => by rw [b3 x hx]; simp [hk]⟩)
        go_wp2_with (first | (refine wpl_load rfl 126 _ rfl vb 0 rfl VA (by have := HSr.out.v; rw [HVA.out] at this ⊢; exact vw_all this) ?_) | (refine wpl_store rfl 126 _ _ rfl (w.heap.size + 1) VA #[.slice none 0 0, .int .u64 0, .int .u64 0, .int .u64 0, .int .u64 0, .int .u64 0, .int .u64 0, .int .u64 0, .int .u64 0, .int .u64 0, .int .u64 0, .int .u64 0, .int .u64 0, .int .u64 0, .int .u64 0, .int .u64 0, .int .u64 0, .int .u64 0, .int .u64 0, .int .u64 0, .int .u64 0, .int .u64 0, .int .u64 0, .int .u64 0, .int .u64 0, .int .u64 0, .int .u64 0, .int .u64 0, .int .u64 0, .int .u64 0, .int .u64 0, .int .u64 0, .int .u64 0, .bool false, .bool false, .bool false, .bool false, .slice none 0 0] rfl rfl HSr.out.z (by rw [HVA.out, vwA_size]; exact info126) (by rw [HVA.out, vwA_size]; rfl) (by rw [HVA.out]; exact vwA_one _ _ _ _ _ _ _) ?_; intro w3 hrow hg; have HR3 := Lib.hid hrow; have HL3 := Lib.hid (grown_below HSr.out.l hg (by omega)); have HO3 : Hid (OutC fOf F w3 g j) := Lib.hid (HO.out.grown hg (by omega)); clear hrow hg))
        obtain ⟨t9, ht9⟩ := rowAt_heap HR3.out
        exact bodyPost_ret (results_row_tmp rfl _ _ (w.heap.size + 1) t9 VA (0, 0) _ rfl ht9 Try.underlying126 rfl (by rw [HVA.out, vwA_size]; exact info126)) rfl ⟨g, by rw [HVA.out]; rfl, HO3.out, HL3.out⟩
end Go.Proofs.Ytnbpgoacooddjaa
