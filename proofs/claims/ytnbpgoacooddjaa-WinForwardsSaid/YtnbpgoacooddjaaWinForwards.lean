/- WinForwards (P903): what forwards to a load stands ahead of it, touches its granule, is a plain store that is not done, with known data, and no other store of the granule stands between: the law returns true, with no condition on the arguments. -/
import Derived.Test.YtnbpgoacooddjaaWs
import Derived.Test.YtnbpgoacooddjaaRows
import Derived.WalkKit
import Derived.ProofKit
import Derived.OpenShut
import Derived.ShutString
import Derived.ChangeOld
import Derived.Below
import Derived.ChangeSame
import Derived.Lib.Hide
import Derived.Test.YtnbpgoacooddjaaWn

namespace Go.Proofs.Ytnbpgoacooddjaa
open Go.ChangeShapes Go.WideShapes Go.ChangeAt Go.RowKit
set_option linter.unusedVariables false
attribute [local go_sem] rowAt_drew rowAt_drewN
theorem wp_narrow17 {P : Program} {c : Code} {K : Act → World → Prop} {Q : Exit → Act → World → Prop} {a : Act} {w : World} (h : c.wp P (Exit.then K (fun _ _ _ => False)) a w) : c.wp P (Exit.then K Q) a w :=
  wp_mono h (fun e a w he => by
    cases e
    case normal => exact he
    all_goals exact False.elim he)
theorem ld26 (v : Value) : Instr.loadAt 26 v = ldAt 26 v := rfl
attribute [local go_sem ↓] ld26
set_option maxRecDepth 100000 in
set_option maxHeartbeats 80000000 in
theorem forwards_walk (F : Nat → WI) (base : Rg) (a : Option Addr) (n cap : Nat) (w : World) (HW : Hid (SrcW w a n F)) (hcap : n ≤ cap) (HK : Hid KnoP)
    (fw : Nat → Option Nat) (ad : Nat → Option Int) (va : Nat → Int → Option Int)
    (H16 : Hid (n ≤ 20 → ∀ (b off i : Nat) (V : World), WnC V b off n F → i < n → Calls Try.prog 16 #[.slice (some ⟨b, off, none⟩) n cap, .int .i64 i, .agg base.arr] V fun e w' => e = .returned (.tuple #[.int .i64 ((fw i).getD 0 : Nat), .bool (fw i).isSome]) ∧ Below V.heap.size V w'))
    (H17 : Hid (n ≤ 20 → ∀ (b off i : Nat) (V : World), WnC V b off n F → i < n → Calls Try.prog 17 #[.slice (some ⟨b, off, none⟩) n cap, .int .i64 i, .agg base.arr] V fun e w' => e = .returned (.tuple #[.int .u64 ((ad i).getD 0), .bool (ad i).isSome]) ∧ Below V.heap.size V w'))
    (H18 : Hid (n ≤ 20 → ∀ (b off i : Nat) (reg : Int) (V : World), WnC V b off n F → i < n → Calls Try.prog 18 #[.slice (some ⟨b, off, none⟩) n cap, .int .i64 i, .agg base.arr, .int .i64 reg] V fun e w' => e = .returned (.tuple #[.int .u64 ((va i reg).getD 0), .bool (va i reg).isSome]) ∧ Below V.heap.size V w'))
    (HS : Hid (∀ i j, fw i = some j → j < i ∧ ∃ a b, ad i = some a ∧ ad j = some b ∧ b / 8 = a / 8 ∧ (F j).dn = false ∧ ((F j).op = 29 ∨ (F j).op = 32) ∧ (va j (F j).d).isSome = true ∧
      ∀ k, j < k → k < i → ∀ c, ad k = some c → c / 8 = a / 8 → storeB (F k).op = false))
    (HA : Hid (∀ i x, i < n → ad i = some x → 0 ≤ x ∧ x < 18446744073709551616)) :
    Calls Try.prog 5 #[.slice a n cap, .agg base.arr] w fun e w' => e = .returned (.bool true) ∧ Below w.heap.size w w' := by
  have HB : Hid (rowAt (w.alloc (.cells base.arr 26)) w.heap.size = some base.arr) := Lib.hid (rowAt_new _ _ _)
  have HL : Hid (Below w.heap.size w (w.alloc (.cells base.arr 26))) := Lib.hid ((Below.refl _ _).alloc (Nat.le_refl _) _)
  go_enter Try.func5, Try.ntmps5
  go_wp2_with (first | (go_at_call 13; refine (HK.out _).mono ?_; rintro e w2 ⟨rfl, hb2⟩; have HB2 := Lib.hid (rowAt_below HB.out hb2 rfl); have HL2 := Lib.hid (below_step HL.out hb2 rfl rfl rfl rfl); clear hb2 HB HL))
  · go_ret
    exact ⟨rfl, HL2.out⟩
  · have hn20 : n ≤ 20 := by omega
    go_loopw [5] (fun s5 W => ∃ j : Nat, j ≤ n ∧ s5 = .int .i64 j ∧ Hid (rowAt W w.heap.size = some base.arr) ∧ Hid (Below w.heap.size w W)) (fun s5 _ => n - (intOf s5).toNat)
    case atStart => exact ⟨0, Nat.zero_le _, rfl, HB2, HL2⟩
    case round =>
      obtain ⟨i, hi, rfl, HBr, HLr⟩ := hrel
      by_cases hlt : i < n
      · obtain ⟨b, off, rfl, hw⟩ := HW.out.some (by omega)
        have HWr := Lib.hid (hw.below HLr.out)
        have hF := H16.out hn20 b off i wr HWr.out hlt
        clear hw
        rcases hfw : fw i with _ | j
        · rw [hfw] at hF
          have HFr := Lib.hid hF
          clear hF hfw
          go_wp2_with (first | (refine wpl_load rfl 26 _ rfl w.heap.size 0 rfl base.arr (reg_all HBr.out) ?_) | (go_at_call 16; refine HFr.out.mono ?_; rintro e w3 ⟨rfl, hb3⟩; have HB3 := Lib.hid (rowAt_below HBr.out hb3 rfl); have HL3 := Lib.hid (below_step HLr.out hb3 rfl rfl rfl rfl); clear hb3))
          go_roundw
          case rel => exact ⟨i + 1, by omega, by go_num, HB3, HL3⟩
          case measure => simp [intOf]; omega
        · rw [hfw] at hF
          have HFr := Lib.hid hF
          obtain ⟨hji, x, y, hax, hay, hxy, hdn, hop, hva, hbt⟩ := HS.out i j hfw
          have hjn : j < n := by omega
          have hbx := HA.out i x hlt hax
          have hby := HA.out j y hjn hay
          have HBT := Lib.hid hbt
          have HVA := Lib.hid hva
          have HAX := Lib.hid (show ∀ V, WnC V b off n F → Calls Try.prog 17 #[.slice (some ⟨b, off, none⟩) n cap, .int .i64 i, .agg base.arr] V fun e w' => e = .returned (.tuple #[.int .u64 x, .bool true]) ∧ Below V.heap.size V w' from fun V hV => by have := H17.out hn20 b off i V hV hlt; rw [hax] at this; exact this)
          have HAY := Lib.hid (show ∀ V, WnC V b off n F → Calls Try.prog 17 #[.slice (some ⟨b, off, none⟩) n cap, .int .i64 j, .agg base.arr] V fun e w' => e = .returned (.tuple #[.int .u64 y, .bool true]) ∧ Below V.heap.size V w' from fun V hV => by have := H17.out hn20 b off j V hV hjn; rw [hay] at this; exact this)
          have hne8 : (x / 8 != y / 8) = false := by simp [hxy]
          have HDN := Lib.hid hdn
          have HOP := Lib.hid hop
          have H18r := Lib.hid (show ∀ V, WnC V b off n F → Calls Try.prog 18 #[.slice (some ⟨b, off, none⟩) n cap, .int .i64 j, .agg base.arr, .int .i64 (F j).d] V fun e w' => e = .returned (.tuple #[.int .u64 ((va j (F j).d).getD 0), .bool true]) ∧ Below V.heap.size V w' from fun V hV => by have := H18.out hn20 b off j (F j).d V hV hjn; rw [hva] at this; exact this)
          clear hF hfw hbt hva hax hay hdn hop
          obtain ⟨o, ho⟩ : ∃ o, (F j).op = o := ⟨_, rfl⟩
          rw [ho] at HOP
          have HO := Lib.hid ho
          clear ho
          go_upto_region 15 with (first | (refine wpl_load rfl 26 _ rfl w.heap.size 0 rfl base.arr (reg_all HBr.out) ?_) | (go_at_call 16; refine HFr.out.mono ?_; rintro e w3 ⟨rfl, hb3⟩; have HB3 := Lib.hid (rowAt_below HBr.out hb3 rfl); have HL3 := Lib.hid (below_step HLr.out hb3 rfl rfl rfl rfl); have HW3 := Lib.hid (HWr.out.below hb3); clear hb3 HBr HLr HWr HFr) | (refine wpl_load rfl 26 _ rfl w.heap.size 0 rfl base.arr (reg_all HB3.out) ?_) | (go_at_call 17; refine (HAX.out _ HW3.out).mono ?_; rintro e w4 ⟨rfl, hb4⟩; have HB4 := Lib.hid (rowAt_below HB3.out hb4 rfl); have HL4 := Lib.hid (below_step HL3.out hb4 rfl rfl rfl rfl); have HW4 := Lib.hid (HW3.out.below hb4); clear hb4 HB3 HL3 HW3 HAX) | (refine wpl_load rfl 26 _ rfl w.heap.size 0 rfl base.arr (reg_all HB4.out) ?_) | (go_at_call 17; refine (HAY.out _ HW4.out).mono ?_; rintro e w5 ⟨rfl, hb5⟩; have HB5 := Lib.hid (rowAt_below HB4.out hb5 rfl); have HL5 := Lib.hid (below_step HL4.out hb5 rfl rfl rfl rfl); have HW5 := Lib.hid (HW4.out.below hb5); have cdn := HW5.out.dn j hjn; rw [HDN.out] at cdn; have cop := (HW5.out.ins j hjn).1; rw [HO.out] at cop; clear hb5 HB4 HL4 HW4 HAY))
          clear cop
          rcases HOP.out with h | h
          · subst h
            go_upto_region 17 with (fail)
            all_goals (try (exfalso; omega))
            have hlB : ∀ w', rowAt w' w.heap.size = some base.arr → (ldAt 26 (.pointer (some ⟨w.heap.size, 0, none⟩))).run Try.prog w' = .ok (.agg base.arr) w' := fun w' h => reg_all h
            refine wp_narrow17 ?_
            have hB5 : rowAt w5.drew w.heap.size = some base.arr := HB5.out
            have hW5 : WnC w5.drew b off n F := HW5.out
            have hL5 : Below w.heap.size w w5.drew := HL5.out.drew
            have cdd := (hW5.ins j hjn).2.1
            refine wp_region_held_drew (S := fun w' => rowAt w' w.heap.size = some base.arr ∧ w'.cell? ⟨b, off + j * 46 + 2, none⟩ = some (.int .i64 (F j).d)) (by kernel_rfl) ⟨hB5, cdd⟩ (fun hHeld => ?_)
            generalize w5.drew = V at hB5 hW5 hL5 cdd hHeld ⊢
            refine wpAnyH_take (i := 0) (oi := { dst := some 99, op := Go.Op.move (Go.Operand.tmp 0), type := 22, pos := "more.go:30", after := #[], guard := none }) (v := ?_) rfl (by kernel_rfl) (by kernel_rfl) (by kernel_rfl) (fun _ _ _ h => h) (Or.inl ⟨by rfl, ?_⟩) (by assumption) ?_
            rotate_left
            · (intro w0 hSw; (try dsimp only at hSw); go_split_ands; go_simp; with_reducible rfl)
            try simp only [Act.put, List.setIfInBounds_toArray, List.set_cons_zero, List.set_cons_succ]
            refine wpAnyH_take (i := 1) (oi := { dst := some 100, op := Go.Op.move (Go.Operand.tmp 6), type := 3, pos := "more.go:30", after := #[], guard := none }) (v := ?_) rfl (by kernel_rfl) (by kernel_rfl) (by kernel_rfl) (fun _ _ _ h => h) (Or.inl ⟨by rfl, ?_⟩) (by assumption) ?_
            rotate_left
            · (intro w0 hSw; (try dsimp only at hSw); go_split_ands; go_simp; with_reducible rfl)
            try simp only [Act.put, List.setIfInBounds_toArray, List.set_cons_zero, List.set_cons_succ]
            refine wpAnyH_take (i := 2) (oi := { dst := some 101, op := Go.Op.load 26 (Go.Operand.tmp 3), type := 26, pos := "more.go:30", after := #[], guard := none }) (v := ?_) rfl (by kernel_rfl) (by kernel_rfl) (by kernel_rfl) (fun _ _ _ h => h) (Or.inl ⟨by rfl, ?_⟩) (by assumption) ?_
            rotate_left
            · (intro w0 hSw; (try dsimp only at hSw); go_split_ands; go_simp; with_reducible rfl)
            try simp only [Act.put, List.setIfInBounds_toArray, List.set_cons_zero, List.set_cons_succ]
            refine wpAnyH_take (i := 3) (oi := { dst := some 102, op := Go.Op.move (Go.Operand.tmp 0), type := 22, pos := "more.go:30", after := #[], guard := none }) (v := ?_) rfl (by kernel_rfl) (by kernel_rfl) (by kernel_rfl) (fun _ _ _ h => h) (Or.inl ⟨by rfl, ?_⟩) (by assumption) ?_
            rotate_left
            · (intro w0 hSw; (try dsimp only at hSw); go_split_ands; go_simp; with_reducible rfl)
            try simp only [Act.put, List.setIfInBounds_toArray, List.set_cons_zero, List.set_cons_succ]
            refine wpAnyH_take (i := 4) (oi := { dst := some 103, op := Go.Op.move (Go.Operand.tmp 6), type := 3, pos := "more.go:30", after := #[], guard := none }) (v := ?_) rfl (by kernel_rfl) (by kernel_rfl) (by kernel_rfl) (fun _ _ _ h => h) (Or.inl ⟨by rfl, ?_⟩) (by assumption) ?_
            rotate_left
            · (intro w0 hSw; (try dsimp only at hSw); go_split_ands; go_simp; with_reducible rfl)
            try simp only [Act.put, List.setIfInBounds_toArray, List.set_cons_zero, List.set_cons_succ]
            refine wpAnyH_take (i := 5) (oi := { dst := some 104, op := Go.Op.indexAddr 22 (Go.Operand.tmp 102) (Go.Operand.tmp 103), type := 0, pos := "more.go:30", after := #[{ on := 3, ground := Go.Ground.data }, { on := 4, ground := Go.Ground.data }], guard := none }) (v := ?_) rfl (by kernel_rfl) (by kernel_rfl) (by kernel_rfl) (fun _ _ _ h => h) (Or.inl ⟨by rfl, ?_⟩) (by assumption) ?_
            rotate_left
            · (intro w0 hSw; (try dsimp only at hSw); go_split_ands; go_simp; with_reducible rfl)
            try simp only [Act.put, List.setIfInBounds_toArray, List.set_cons_zero, List.set_cons_succ]
            refine wpAnyH_take (i := 6) (oi := { dst := some 105, op := Go.Op.fieldAddr 31 (Go.Operand.tmp 104) 1, type := 0, pos := "more.go:30", after := #[{ on := 5, ground := Go.Ground.data }], guard := none }) (v := ?_) rfl (by kernel_rfl) (by kernel_rfl) (by kernel_rfl) (fun _ _ _ h => h) (Or.inl ⟨by rfl, ?_⟩) (by assumption) ?_
            rotate_left
            · (intro w0 hSw; (try dsimp only at hSw); go_split_ands; go_simp; with_reducible rfl)
            try simp only [Act.put, List.setIfInBounds_toArray, List.set_cons_zero, List.set_cons_succ]
            refine wpAnyH_take (i := 7) (oi := { dst := some 106, op := Go.Op.fieldAddr 29 (Go.Operand.tmp 105) 1, type := 0, pos := "more.go:30", after := #[{ on := 6, ground := Go.Ground.data }], guard := none }) (v := ?_) rfl (by kernel_rfl) (by kernel_rfl) (by kernel_rfl) (fun _ _ _ h => h) (Or.inl ⟨by rfl, ?_⟩) (by assumption) ?_
            rotate_left
            · (intro w0 hSw; (try dsimp only at hSw); go_split_ands; go_simp; with_reducible rfl)
            try simp only [Act.put, List.setIfInBounds_toArray, List.set_cons_zero, List.set_cons_succ]
            refine wpAnyH_take (i := 8) (oi := { dst := some 107, op := Go.Op.load 3 (Go.Operand.tmp 106), type := 3, pos := "more.go:30", after := #[{ on := 7, ground := Go.Ground.data }], guard := none }) (v := ?_) rfl (by kernel_rfl) (by kernel_rfl) (by kernel_rfl) (fun _ _ _ h => h) (Or.inl ⟨by rfl, ?_⟩) (by assumption) ?_
            rotate_left
            · (intro w0 hSw; (try dsimp only at hSw); go_split_ands; go_simp; with_reducible rfl)
            try simp only [Act.put, List.setIfInBounds_toArray, List.set_cons_zero, List.set_cons_succ]
            refine wpAnyH_ready (rs := [9]) (by kernel_rfl) (by simp) ?_
            refine AllReadyH.cons (o := { dst := some 108, op := Go.Op.call { callee := Go.Callee.value (Go.Operand.func 18), args := #[Go.Operand.tmp 99, Go.Operand.tmp 100, Go.Operand.tmp 101, Go.Operand.tmp 107], argTypes := #[22, 3, 26, 3] }, type := 40, pos := "more.go:30", after := #[{ on := 0, ground := Go.Ground.data }, { on := 1, ground := Go.Ground.data }, { on := 2, ground := Go.Ground.data }, { on := 8, ground := Go.Ground.data }], guard := none }) rfl (fun K hK => ?_) AllReadyH.nil
            go_simp
            go_at_call 18
            refine (H18r.out _ hW5).mono ?_
            rintro e w6 ⟨rfl, hb6⟩
            have hB6 := rowAt_below hB5 hb6 rfl
            have hW6 := hW5.below hb6
            have cdd6 := (hW6.ins j hjn).2.1
            have hL6 := below_step hL5 hb6 rfl rfl rfl rfl
            clear hb6
            refine hK.out _ _ ⟨hB6, cdd6⟩ (fun hHeld => ?_)
            clear hK K
            try simp only [Act.put, List.setIfInBounds_toArray, List.set_cons_zero, List.set_cons_succ]
            refine wpAnyH_take (i := 10) (oi := { dst := some 98, op := Go.Op.move (Go.Operand.tmp 108), type := 40, pos := "more.go:30", after := #[{ on := 9, ground := Go.Ground.data }], guard := none }) (v := ?_) rfl (by kernel_rfl) (by kernel_rfl) (by kernel_rfl) (fun _ _ _ h => h) (Or.inl ⟨by rfl, ?_⟩) (by assumption) ?_
            rotate_left
            · (intro w0 hSw; (try dsimp only at hSw); go_split_ands; go_simp; with_reducible rfl)
            try simp only [Act.put, List.setIfInBounds_toArray, List.set_cons_zero, List.set_cons_succ]
            refine wpAnyH_take (i := 11) (oi := { dst := some 109, op := Go.Op.extract (Go.Operand.tmp 98) 0, type := 23, pos := "more.go:30", after := #[{ on := 10, ground := Go.Ground.data }], guard := none }) (v := ?_) rfl (by kernel_rfl) (by kernel_rfl) (by kernel_rfl) (fun _ _ _ h => h) (Or.inl ⟨by rfl, ?_⟩) (by assumption) ?_
            rotate_left
            · (intro w0 hSw; (try dsimp only at hSw); go_split_ands; go_simp; with_reducible rfl)
            try simp only [Act.put, List.setIfInBounds_toArray, List.set_cons_zero, List.set_cons_succ]
            refine wpAnyH_take (i := 12) (oi := { dst := some 110, op := Go.Op.extract (Go.Operand.tmp 98) 1, type := 4, pos := "more.go:30", after := #[{ on := 10, ground := Go.Ground.data }, { on := 13, ground := Go.Ground.gcOnly Go.Departure.lateStores }], guard := none }) (v := ?_) rfl (by kernel_rfl) (by kernel_rfl) (by kernel_rfl) (fun _ _ _ h => h) (Or.inl ⟨by rfl, ?_⟩) (by assumption) ?_
            rotate_left
            · (intro w0 hSw; (try dsimp only at hSw); go_split_ands; go_simp; with_reducible rfl)
            try simp only [Act.put, List.setIfInBounds_toArray, List.set_cons_zero, List.set_cons_succ]
            refine wpAnyH_take (i := 13) (oi := { dst := some 13, op := Go.Op.assign (Go.Operand.tmp 109), type := 23, pos := "more.go:30", after := #[{ on := 11, ground := Go.Ground.data }, { on := 9, ground := Go.Ground.chain }, { on := 0, ground := Go.Ground.phase }, { on := 1, ground := Go.Ground.phase }, { on := 2, ground := Go.Ground.phase }, { on := 3, ground := Go.Ground.phase }, { on := 4, ground := Go.Ground.phase }, { on := 5, ground := Go.Ground.phase }, { on := 6, ground := Go.Ground.phase }, { on := 7, ground := Go.Ground.phase }, { on := 8, ground := Go.Ground.phase }, { on := 9, ground := Go.Ground.phase }, { on := 10, ground := Go.Ground.phase }, { on := 11, ground := Go.Ground.phase }, { on := 12, ground := Go.Ground.textOnly Go.Departure.lateStores }], guard := none }) (v := ?_) rfl (by kernel_rfl) (by kernel_rfl) (by kernel_rfl) (fun _ _ _ h => h) (Or.inl ⟨by rfl, ?_⟩) (by assumption) ?_
            rotate_left
            · (intro w0 hSw; (try dsimp only at hSw); go_split_ands; go_simp; with_reducible rfl)
            try simp only [Act.put, List.setIfInBounds_toArray, List.set_cons_zero, List.set_cons_succ]
            refine wpAnyH_take (i := 14) (oi := { dst := some 14, op := Go.Op.assign (Go.Operand.tmp 110), type := 4, pos := "more.go:30", after := #[{ on := 12, ground := Go.Ground.data }, { on := 13, ground := Go.Ground.chain }, { on := 0, ground := Go.Ground.phase }, { on := 1, ground := Go.Ground.phase }, { on := 2, ground := Go.Ground.phase }, { on := 3, ground := Go.Ground.phase }, { on := 4, ground := Go.Ground.phase }, { on := 5, ground := Go.Ground.phase }, { on := 6, ground := Go.Ground.phase }, { on := 7, ground := Go.Ground.phase }, { on := 8, ground := Go.Ground.phase }, { on := 9, ground := Go.Ground.phase }, { on := 10, ground := Go.Ground.phase }, { on := 11, ground := Go.Ground.phase }, { on := 12, ground := Go.Ground.phase }, { on := 13, ground := Go.Ground.phase }], guard := none }) (v := ?_) rfl (by kernel_rfl) (by kernel_rfl) (by kernel_rfl) (fun _ _ _ h => h) (Or.inl ⟨by rfl, ?_⟩) (by assumption) ?_
            rotate_left
            · (intro w0 hSw; (try dsimp only at hSw); go_split_ands; go_simp; with_reducible rfl)
            try simp only [Act.put, List.setIfInBounds_toArray, List.set_cons_zero, List.set_cons_succ]
            refine wpAnyH_done (by kernel_rfl) ?_ _
            clear hHeld cdd cdd6 hlB
            have HB6 := Lib.hid hB6
            have HL6 := Lib.hid hL6
            have HW6 := Lib.hid hW6
            clear hB6 hL6 hW6
            go_wp2
            go_loopw [15] (fun s15 W => ∃ k : Nat, j < k ∧ k ≤ i ∧ s15 = .int .i64 k ∧ Hid (rowAt W w.heap.size = some base.arr) ∧ Hid (Below w.heap.size w W) ∧ Hid (WnC W b off n F)) (fun s15 _ => i - (intOf s15).toNat)
            case atStart => exact ⟨j + 1, by omega, by omega, by go_num, HB6, HL6, HW6⟩
            case round =>
              obtain ⟨k, hjk, hki, rfl, HBk, HLk, HWk⟩ := hrel
              by_cases hlk : k < i
              · have hkn : k < n := by omega
                have hA := H17.out hn20 b off k _ HWk.out hkn
                obtain ⟨q, hq⟩ : ∃ q, (F k).op = q := ⟨_, rfl⟩
                have HQ := Lib.hid hq
                rcases hak : ad k with _ | c
                · rw [hak] at hA
                  have HAr := Lib.hid hA
                  clear hA hak hq
                  go_wp2_with (first | (refine wpl_load rfl 26 _ rfl w.heap.size 0 rfl base.arr (reg_all HBk.out) ?_) | (go_at_call 17; refine HAr.out.mono ?_; rintro e w7 ⟨rfl, hb7⟩; have HB7 := Lib.hid (rowAt_below HBk.out hb7 rfl); have HL7 := Lib.hid (below_step HLk.out hb7 rfl rfl rfl rfl); have HW7 := Lib.hid (HWk.out.below hb7); have cop := (HW7.out.ins k hkn).1; rw [HQ.out] at cop; clear hb7 HBk HLk HWk HAr))
                  all_goals (try (exfalso; omega))
                  go_roundw
                  case rel => exact ⟨k + 1, by omega, by omega, by go_num, HB7, HL7, HW7⟩
                  case measure => simp [intOf]; omega
                · rw [hak] at hA
                  have HAr := Lib.hid hA
                  have hbc := HA.out k c hkn hak
                  by_cases hc8 : c / 8 = x / 8
                  · have hs := HBT.out k hjk hlk c hak hc8
                    rw [hq] at hs
                    have hsq : q ≠ 29 ∧ q ≠ 32 ∧ q ≠ 34 ∧ q ≠ 36 := by simpa [storeB, and_assoc] using hs
                    obtain ⟨q1, q2, q3, q4⟩ := hsq
                    clear hA hak hq hs
                    go_wp2_with (first | (refine wpl_load rfl 26 _ rfl w.heap.size 0 rfl base.arr (reg_all HBk.out) ?_) | (go_at_call 17; refine HAr.out.mono ?_; rintro e w7 ⟨rfl, hb7⟩; have HB7 := Lib.hid (rowAt_below HBk.out hb7 rfl); have HL7 := Lib.hid (below_step HLk.out hb7 rfl rfl rfl rfl); have HW7 := Lib.hid (HWk.out.below hb7); have cop := (HW7.out.ins k hkn).1; rw [HQ.out] at cop; clear hb7 HBk HLk HWk HAr))
                    all_goals (try (exfalso; omega))
                    go_roundw
                    case rel => exact ⟨k + 1, by omega, by omega, by go_num, HB7, HL7, HW7⟩
                    case measure => simp [intOf]; omega
                  · clear hA hak hq
                    go_wp2_with (first | (refine wpl_load rfl 26 _ rfl w.heap.size 0 rfl base.arr (reg_all HBk.out) ?_) | (go_at_call 17; refine HAr.out.mono ?_; rintro e w7 ⟨rfl, hb7⟩; have HB7 := Lib.hid (rowAt_below HBk.out hb7 rfl); have HL7 := Lib.hid (below_step HLk.out hb7 rfl rfl rfl rfl); have HW7 := Lib.hid (HWk.out.below hb7); have cop := (HW7.out.ins k hkn).1; rw [HQ.out] at cop; clear hb7 HBk HLk HWk HAr))
                    all_goals (try (exfalso; omega))
                    go_roundw
                    case rel => exact ⟨k + 1, by omega, by omega, by go_num, HB7, HL7, HW7⟩
                    case measure => simp [intOf]; omega
              · obtain rfl : i = k := by omega
                go_wp2
                go_roundw
                case rel => exact ⟨i + 1, by omega, by go_num, HBk, HLk⟩
                case measure => simp [intOf]; omega
          · subst h
            go_upto_region 17 with (fail)
            all_goals (try (exfalso; omega))
            have hlB : ∀ w', rowAt w' w.heap.size = some base.arr → (ldAt 26 (.pointer (some ⟨w.heap.size, 0, none⟩))).run Try.prog w' = .ok (.agg base.arr) w' := fun w' h => reg_all h
            refine wp_narrow17 ?_
            have hB5 : rowAt w5.drew w.heap.size = some base.arr := HB5.out
            have hW5 : WnC w5.drew b off n F := HW5.out
            have hL5 : Below w.heap.size w w5.drew := HL5.out.drew
            have cdd := (hW5.ins j hjn).2.1
            refine wp_region_held_drew (S := fun w' => rowAt w' w.heap.size = some base.arr ∧ w'.cell? ⟨b, off + j * 46 + 2, none⟩ = some (.int .i64 (F j).d)) (by kernel_rfl) ⟨hB5, cdd⟩ (fun hHeld => ?_)
            generalize w5.drew = V at hB5 hW5 hL5 cdd hHeld ⊢
            refine wpAnyH_take (i := 0) (oi := { dst := some 99, op := Go.Op.move (Go.Operand.tmp 0), type := 22, pos := "more.go:30", after := #[], guard := none }) (v := ?_) rfl (by kernel_rfl) (by kernel_rfl) (by kernel_rfl) (fun _ _ _ h => h) (Or.inl ⟨by rfl, ?_⟩) (by assumption) ?_
            rotate_left
            · (intro w0 hSw; (try dsimp only at hSw); go_split_ands; go_simp; with_reducible rfl)
            try simp only [Act.put, List.setIfInBounds_toArray, List.set_cons_zero, List.set_cons_succ]
            refine wpAnyH_take (i := 1) (oi := { dst := some 100, op := Go.Op.move (Go.Operand.tmp 6), type := 3, pos := "more.go:30", after := #[], guard := none }) (v := ?_) rfl (by kernel_rfl) (by kernel_rfl) (by kernel_rfl) (fun _ _ _ h => h) (Or.inl ⟨by rfl, ?_⟩) (by assumption) ?_
            rotate_left
            · (intro w0 hSw; (try dsimp only at hSw); go_split_ands; go_simp; with_reducible rfl)
            try simp only [Act.put, List.setIfInBounds_toArray, List.set_cons_zero, List.set_cons_succ]
            refine wpAnyH_take (i := 2) (oi := { dst := some 101, op := Go.Op.load 26 (Go.Operand.tmp 3), type := 26, pos := "more.go:30", after := #[], guard := none }) (v := ?_) rfl (by kernel_rfl) (by kernel_rfl) (by kernel_rfl) (fun _ _ _ h => h) (Or.inl ⟨by rfl, ?_⟩) (by assumption) ?_
            rotate_left
            · (intro w0 hSw; (try dsimp only at hSw); go_split_ands; go_simp; with_reducible rfl)
            try simp only [Act.put, List.setIfInBounds_toArray, List.set_cons_zero, List.set_cons_succ]
            refine wpAnyH_take (i := 3) (oi := { dst := some 102, op := Go.Op.move (Go.Operand.tmp 0), type := 22, pos := "more.go:30", after := #[], guard := none }) (v := ?_) rfl (by kernel_rfl) (by kernel_rfl) (by kernel_rfl) (fun _ _ _ h => h) (Or.inl ⟨by rfl, ?_⟩) (by assumption) ?_
            rotate_left
            · (intro w0 hSw; (try dsimp only at hSw); go_split_ands; go_simp; with_reducible rfl)
            try simp only [Act.put, List.setIfInBounds_toArray, List.set_cons_zero, List.set_cons_succ]
            refine wpAnyH_take (i := 4) (oi := { dst := some 103, op := Go.Op.move (Go.Operand.tmp 6), type := 3, pos := "more.go:30", after := #[], guard := none }) (v := ?_) rfl (by kernel_rfl) (by kernel_rfl) (by kernel_rfl) (fun _ _ _ h => h) (Or.inl ⟨by rfl, ?_⟩) (by assumption) ?_
            rotate_left
            · (intro w0 hSw; (try dsimp only at hSw); go_split_ands; go_simp; with_reducible rfl)
            try simp only [Act.put, List.setIfInBounds_toArray, List.set_cons_zero, List.set_cons_succ]
            refine wpAnyH_take (i := 5) (oi := { dst := some 104, op := Go.Op.indexAddr 22 (Go.Operand.tmp 102) (Go.Operand.tmp 103), type := 0, pos := "more.go:30", after := #[{ on := 3, ground := Go.Ground.data }, { on := 4, ground := Go.Ground.data }], guard := none }) (v := ?_) rfl (by kernel_rfl) (by kernel_rfl) (by kernel_rfl) (fun _ _ _ h => h) (Or.inl ⟨by rfl, ?_⟩) (by assumption) ?_
            rotate_left
            · (intro w0 hSw; (try dsimp only at hSw); go_split_ands; go_simp; with_reducible rfl)
            try simp only [Act.put, List.setIfInBounds_toArray, List.set_cons_zero, List.set_cons_succ]
            refine wpAnyH_take (i := 6) (oi := { dst := some 105, op := Go.Op.fieldAddr 31 (Go.Operand.tmp 104) 1, type := 0, pos := "more.go:30", after := #[{ on := 5, ground := Go.Ground.data }], guard := none }) (v := ?_) rfl (by kernel_rfl) (by kernel_rfl) (by kernel_rfl) (fun _ _ _ h => h) (Or.inl ⟨by rfl, ?_⟩) (by assumption) ?_
            rotate_left
            · (intro w0 hSw; (try dsimp only at hSw); go_split_ands; go_simp; with_reducible rfl)
            try simp only [Act.put, List.setIfInBounds_toArray, List.set_cons_zero, List.set_cons_succ]
            refine wpAnyH_take (i := 7) (oi := { dst := some 106, op := Go.Op.fieldAddr 29 (Go.Operand.tmp 105) 1, type := 0, pos := "more.go:30", after := #[{ on := 6, ground := Go.Ground.data }], guard := none }) (v := ?_) rfl (by kernel_rfl) (by kernel_rfl) (by kernel_rfl) (fun _ _ _ h => h) (Or.inl ⟨by rfl, ?_⟩) (by assumption) ?_
            rotate_left
            · (intro w0 hSw; (try dsimp only at hSw); go_split_ands; go_simp; with_reducible rfl)
            try simp only [Act.put, List.setIfInBounds_toArray, List.set_cons_zero, List.set_cons_succ]
            refine wpAnyH_take (i := 8) (oi := { dst := some 107, op := Go.Op.load 3 (Go.Operand.tmp 106), type := 3, pos := "more.go:30", after := #[{ on := 7, ground := Go.Ground.data }], guard := none }) (v := ?_) rfl (by kernel_rfl) (by kernel_rfl) (by kernel_rfl) (fun _ _ _ h => h) (Or.inl ⟨by rfl, ?_⟩) (by assumption) ?_
            rotate_left
            · (intro w0 hSw; (try dsimp only at hSw); go_split_ands; go_simp; with_reducible rfl)
            try simp only [Act.put, List.setIfInBounds_toArray, List.set_cons_zero, List.set_cons_succ]
            refine wpAnyH_ready (rs := [9]) (by kernel_rfl) (by simp) ?_
            refine AllReadyH.cons (o := { dst := some 108, op := Go.Op.call { callee := Go.Callee.value (Go.Operand.func 18), args := #[Go.Operand.tmp 99, Go.Operand.tmp 100, Go.Operand.tmp 101, Go.Operand.tmp 107], argTypes := #[22, 3, 26, 3] }, type := 40, pos := "more.go:30", after := #[{ on := 0, ground := Go.Ground.data }, { on := 1, ground := Go.Ground.data }, { on := 2, ground := Go.Ground.data }, { on := 8, ground := Go.Ground.data }], guard := none }) rfl (fun K hK => ?_) AllReadyH.nil
            go_simp
            go_at_call 18
            refine (H18r.out _ hW5).mono ?_
            rintro e w6 ⟨rfl, hb6⟩
            have hB6 := rowAt_below hB5 hb6 rfl
            have hW6 := hW5.below hb6
            have cdd6 := (hW6.ins j hjn).2.1
            have hL6 := below_step hL5 hb6 rfl rfl rfl rfl
            clear hb6
            refine hK.out _ _ ⟨hB6, cdd6⟩ (fun hHeld => ?_)
            clear hK K
            try simp only [Act.put, List.setIfInBounds_toArray, List.set_cons_zero, List.set_cons_succ]
            refine wpAnyH_take (i := 10) (oi := { dst := some 98, op := Go.Op.move (Go.Operand.tmp 108), type := 40, pos := "more.go:30", after := #[{ on := 9, ground := Go.Ground.data }], guard := none }) (v := ?_) rfl (by kernel_rfl) (by kernel_rfl) (by kernel_rfl) (fun _ _ _ h => h) (Or.inl ⟨by rfl, ?_⟩) (by assumption) ?_
            rotate_left
            · (intro w0 hSw; (try dsimp only at hSw); go_split_ands; go_simp; with_reducible rfl)
            try simp only [Act.put, List.setIfInBounds_toArray, List.set_cons_zero, List.set_cons_succ]
            refine wpAnyH_take (i := 11) (oi := { dst := some 109, op := Go.Op.extract (Go.Operand.tmp 98) 0, type := 23, pos := "more.go:30", after := #[{ on := 10, ground := Go.Ground.data }], guard := none }) (v := ?_) rfl (by kernel_rfl) (by kernel_rfl) (by kernel_rfl) (fun _ _ _ h => h) (Or.inl ⟨by rfl, ?_⟩) (by assumption) ?_
            rotate_left
            · (intro w0 hSw; (try dsimp only at hSw); go_split_ands; go_simp; with_reducible rfl)
            try simp only [Act.put, List.setIfInBounds_toArray, List.set_cons_zero, List.set_cons_succ]
            refine wpAnyH_take (i := 12) (oi := { dst := some 110, op := Go.Op.extract (Go.Operand.tmp 98) 1, type := 4, pos := "more.go:30", after := #[{ on := 10, ground := Go.Ground.data }, { on := 13, ground := Go.Ground.gcOnly Go.Departure.lateStores }], guard := none }) (v := ?_) rfl (by kernel_rfl) (by kernel_rfl) (by kernel_rfl) (fun _ _ _ h => h) (Or.inl ⟨by rfl, ?_⟩) (by assumption) ?_
            rotate_left
            · (intro w0 hSw; (try dsimp only at hSw); go_split_ands; go_simp; with_reducible rfl)
            try simp only [Act.put, List.setIfInBounds_toArray, List.set_cons_zero, List.set_cons_succ]
            refine wpAnyH_take (i := 13) (oi := { dst := some 13, op := Go.Op.assign (Go.Operand.tmp 109), type := 23, pos := "more.go:30", after := #[{ on := 11, ground := Go.Ground.data }, { on := 9, ground := Go.Ground.chain }, { on := 0, ground := Go.Ground.phase }, { on := 1, ground := Go.Ground.phase }, { on := 2, ground := Go.Ground.phase }, { on := 3, ground := Go.Ground.phase }, { on := 4, ground := Go.Ground.phase }, { on := 5, ground := Go.Ground.phase }, { on := 6, ground := Go.Ground.phase }, { on := 7, ground := Go.Ground.phase }, { on := 8, ground := Go.Ground.phase }, { on := 9, ground := Go.Ground.phase }, { on := 10, ground := Go.Ground.phase }, { on := 11, ground := Go.Ground.phase }, { on := 12, ground := Go.Ground.textOnly Go.Departure.lateStores }], guard := none }) (v := ?_) rfl (by kernel_rfl) (by kernel_rfl) (by kernel_rfl) (fun _ _ _ h => h) (Or.inl ⟨by rfl, ?_⟩) (by assumption) ?_
            rotate_left
            · (intro w0 hSw; (try dsimp only at hSw); go_split_ands; go_simp; with_reducible rfl)
            try simp only [Act.put, List.setIfInBounds_toArray, List.set_cons_zero, List.set_cons_succ]
            refine wpAnyH_take (i := 14) (oi := { dst := some 14, op := Go.Op.assign (Go.Operand.tmp 110), type := 4, pos := "more.go:30", after := #[{ on := 12, ground := Go.Ground.data }, { on := 13, ground := Go.Ground.chain }, { on := 0, ground := Go.Ground.phase }, { on := 1, ground := Go.Ground.phase }, { on := 2, ground := Go.Ground.phase }, { on := 3, ground := Go.Ground.phase }, { on := 4, ground := Go.Ground.phase }, { on := 5, ground := Go.Ground.phase }, { on := 6, ground := Go.Ground.phase }, { on := 7, ground := Go.Ground.phase }, { on := 8, ground := Go.Ground.phase }, { on := 9, ground := Go.Ground.phase }, { on := 10, ground := Go.Ground.phase }, { on := 11, ground := Go.Ground.phase }, { on := 12, ground := Go.Ground.phase }, { on := 13, ground := Go.Ground.phase }], guard := none }) (v := ?_) rfl (by kernel_rfl) (by kernel_rfl) (by kernel_rfl) (fun _ _ _ h => h) (Or.inl ⟨by rfl, ?_⟩) (by assumption) ?_
            rotate_left
            · (intro w0 hSw; (try dsimp only at hSw); go_split_ands; go_simp; with_reducible rfl)
            try simp only [Act.put, List.setIfInBounds_toArray, List.set_cons_zero, List.set_cons_succ]
            refine wpAnyH_done (by kernel_rfl) ?_ _
            clear hHeld cdd cdd6 hlB
            have HB6 := Lib.hid hB6
            have HL6 := Lib.hid hL6
            have HW6 := Lib.hid hW6
            clear hB6 hL6 hW6
            go_wp2
            go_loopw [15] (fun s15 W => ∃ k : Nat, j < k ∧ k ≤ i ∧ s15 = .int .i64 k ∧ Hid (rowAt W w.heap.size = some base.arr) ∧ Hid (Below w.heap.size w W) ∧ Hid (WnC W b off n F)) (fun s15 _ => i - (intOf s15).toNat)
            case atStart => exact ⟨j + 1, by omega, by omega, by go_num, HB6, HL6, HW6⟩
            case round =>
              obtain ⟨k, hjk, hki, rfl, HBk, HLk, HWk⟩ := hrel
              by_cases hlk : k < i
              · have hkn : k < n := by omega
                have hA := H17.out hn20 b off k _ HWk.out hkn
                obtain ⟨q, hq⟩ : ∃ q, (F k).op = q := ⟨_, rfl⟩
                have HQ := Lib.hid hq
                rcases hak : ad k with _ | c
                · rw [hak] at hA
                  have HAr := Lib.hid hA
                  clear hA hak hq
                  go_wp2_with (first | (refine wpl_load rfl 26 _ rfl w.heap.size 0 rfl base.arr (reg_all HBk.out) ?_) | (go_at_call 17; refine HAr.out.mono ?_; rintro e w7 ⟨rfl, hb7⟩; have HB7 := Lib.hid (rowAt_below HBk.out hb7 rfl); have HL7 := Lib.hid (below_step HLk.out hb7 rfl rfl rfl rfl); have HW7 := Lib.hid (HWk.out.below hb7); have cop := (HW7.out.ins k hkn).1; rw [HQ.out] at cop; clear hb7 HBk HLk HWk HAr))
                  all_goals (try (exfalso; omega))
                  go_roundw
                  case rel => exact ⟨k + 1, by omega, by omega, by go_num, HB7, HL7, HW7⟩
                  case measure => simp [intOf]; omega
                · rw [hak] at hA
                  have HAr := Lib.hid hA
                  have hbc := HA.out k c hkn hak
                  by_cases hc8 : c / 8 = x / 8
                  · have hs := HBT.out k hjk hlk c hak hc8
                    rw [hq] at hs
                    have hsq : q ≠ 29 ∧ q ≠ 32 ∧ q ≠ 34 ∧ q ≠ 36 := by simpa [storeB, and_assoc] using hs
                    obtain ⟨q1, q2, q3, q4⟩ := hsq
                    clear hA hak hq hs
                    go_wp2_with (first | (refine wpl_load rfl 26 _ rfl w.heap.size 0 rfl base.arr (reg_all HBk.out) ?_) | (go_at_call 17; refine HAr.out.mono ?_; rintro e w7 ⟨rfl, hb7⟩; have HB7 := Lib.hid (rowAt_below HBk.out hb7 rfl); have HL7 := Lib.hid (below_step HLk.out hb7 rfl rfl rfl rfl); have HW7 := Lib.hid (HWk.out.below hb7); have cop := (HW7.out.ins k hkn).1; rw [HQ.out] at cop; clear hb7 HBk HLk HWk HAr))
                    all_goals (try (exfalso; omega))
                    go_roundw
                    case rel => exact ⟨k + 1, by omega, by omega, by go_num, HB7, HL7, HW7⟩
                    case measure => simp [intOf]; omega
                  · clear hA hak hq
                    go_wp2_with (first | (refine wpl_load rfl 26 _ rfl w.heap.size 0 rfl base.arr (reg_all HBk.out) ?_) | (go_at_call 17; refine HAr.out.mono ?_; rintro e w7 ⟨rfl, hb7⟩; have HB7 := Lib.hid (rowAt_below HBk.out hb7 rfl); have HL7 := Lib.hid (below_step HLk.out hb7 rfl rfl rfl rfl); have HW7 := Lib.hid (HWk.out.below hb7); have cop := (HW7.out.ins k hkn).1; rw [HQ.out] at cop; clear hb7 HBk HLk HWk HAr))
                    all_goals (try (exfalso; omega))
                    go_roundw
                    case rel => exact ⟨k + 1, by omega, by omega, by go_num, HB7, HL7, HW7⟩
                    case measure => simp [intOf]; omega
              · obtain rfl : i = k := by omega
                go_wp2
                go_roundw
                case rel => exact ⟨i + 1, by omega, by go_num, HBk, HLk⟩
                case measure => simp [intOf]; omega
      · obtain rfl : n = i := by omega
        go_wp2
        go_ret
        exact ⟨rfl, HLr.out⟩
end Go.Proofs.Ytnbpgoacooddjaa
namespace Go.Proofs.Ytnbpgoacooddjaa.winForwards
open Go.ChangeShapes Go.WideShapes Go.ChangeAt Go.RowKit
set_option linter.unusedVariables false
theorem own : ownKnob Try.prog.godebug = none := by kernel_rfl
theorem laidOut : laidOutB Try.prog = true := by kernel_rfl
theorem walk (F : Nat → WI) (base : Rg) (a : Option Addr) (n cap : Nat) (w : World) (HW : SrcW w a n F) (hcap : n ≤ cap) (hr : base.within) (hF : ∀ j, (F j).r.within) :
    Calls Try.prog 5 #[.slice a n cap, .agg base.arr] w fun e w' => e = .returned (.bool true) ∧ Below w.heap.size w w' := by
  refine forwards_walk F base a n cap w (Lib.hid HW) hcap (Lib.hid known13) (fwdS fOf F base) (adS fOf F base) (fun i reg => valW fOf F base i reg) (Lib.hid fun hn b off i V hV hi => ?_) (Lib.hid fun hn b off i V hV hi => ?_) (Lib.hid fun hn b off i reg V hV hi => ?_) (Lib.hid fun i j h => ?_) (Lib.hid fun i x hi hx => ?_)
  · exact forward_f F base b off n cap i V (Lib.hid hV) hr (fun j _ => hF j) hi (by omega)
  · exact addr_f F base b off n cap i V (Lib.hid hV) hi (by omega)
  · exact value_f F base b off n cap i reg V (Lib.hid hV) hi (by omega)
  · exact fwdS_spec fOf F base i j h
  · exact adS_bd F base hr i (fun j _ => hF j) x hx
set_option maxRecDepth 100000 in
theorem lifted (os : Os) (started : os.Started) (H : Type) (enc : TypeId × Value → H) :
    ReturnsInHanded {} Try.checked os 5 .any (Rows.winForwardsSpec.pre6 enc Try.prog Try.f5 Rows.winForwardsRow.domain false) (Rows.winForwardsSpec.post enc Try.prog Try.f5 false true false false) := by
  refine returnsInHanded_of_change (C := Try.checked) own started (by kernel_rfl) Try.func5
    (ChangeSpec.witness6 (enc := enc) (C := Try.checked) false ⟨#[], #[.slice none 0 0, .agg #[.int .u64 0, .int .u64 0, .int .u64 0, .int .u64 0, .int .u64 0, .int .u64 0, .int .u64 0, .int .u64 0, .int .u64 0, .int .u64 0, .int .u64 0, .int .u64 0, .int .u64 0, .int .u64 0, .int .u64 0, .int .u64 0, .int .u64 0, .int .u64 0, .int .u64 0, .int .u64 0, .int .u64 0, .int .u64 0, .int .u64 0, .int .u64 0, .int .u64 0, .int .u64 0, .int .u64 0, .int .u64 0, .int .u64 0, .int .u64 0, .int .u64 0, .int .u64 0, .bool false, .bool false, .bool false, .bool false]], []⟩ 8 (by kernel_rfl) (by kernel_rfl) (by kernel_rfl) (by kernel_rfl)) ?_
  intro W base args ds gs before hval0 hW hcnd hsz
  have hval : ∀ (j : Nat) t v, Try.f5.params[j]? = some t → args[j]? = some v → Value.okWide Try.prog W .any base t v := hval0
  have hW' := hW
  obtain ⟨p, q, hA0, hV, rfl, hfz, hnd⟩ := hW
  have hA : DataW.TrodAll enc Try.prog W 0 (fun _ => true) true Try.f5.params.toList args.toList ds p := hA0
  rw [Try.params5] at hA hval
  obtain ⟨v0, vs0, d0, ds0, p0, q0, hargs, rfl, rfl, h0, r0⟩ := trodAll_cons hA
  obtain ⟨v1, vs1, d1, ds1, p1, q1, rfl, rfl, rfl, h1, r1⟩ := trodAll_cons r0
  obtain ⟨rfl, rfl, rfl⟩ := trodAll_nil r1
  obtain rfl : args = #[v0, v1] := by cases args; simp_all
  obtain ⟨rfl, rfl⟩ := trodVars_none hV
  obtain ⟨a0, len0, cap0, rfl⟩ := okWide_slice Try.underlying22 (hval 0 22 v0 rfl rfl)
  obtain ⟨r, hr, rfl⟩ := regs_open (hval 1 26 v1 rfl rfl) h1
  have k0 := h0
  have k1 := h1
  have lt0 : ∀ x ∈ p0, x.block < W.heap.size := by obtain ⟨m, hm⟩ := k0; exact DataW.trod_lt m _ _ _ hm
  have lt1 : ∀ x ∈ p1, x.block < W.heap.size := by obtain ⟨m, hm⟩ := k1; exact DataW.trod_lt m _ _ _ hm
  obtain ⟨hc0, hn0, F0, w0, hF0⟩ := win_open h0
  clear hA0 hval0
  refine (walk F0 r a0 len0 cap0 W w0 hc0 hr hF0).mono fun e W' ⟨he, bel⟩ => ?_
  subst he
  exact ⟨_, rfl, _, _, _, [], _, [], hW', trodAll_mk1 (shut_bool Try.underlying4 _), (trodAll_cons_mk (Below.trod laidOut (by kernel_rfl) (of_decide_eq_true (by kernel_rfl)) k0 bel lt0) (trodAll_cons_mk (Below.trod laidOut (by kernel_rfl) (of_decide_eq_true (by kernel_rfl)) k1 bel lt1) trodAll_mk0)), rfl, bel.frame _, fun h => by cases h⟩

theorem over : Rows.winForwardsRow.holds Try.pinned (OpenSpec.ofChange Rows.winForwardsSpec) :=
  OpenClaim.holds_of_wide 5 Try.f5 rfl rfl rfl rfl rfl rfl rfl ⟨rfl, rfl, rfl, rfl, rfl⟩ rfl rfl rfl rfl rfl (by kernel_rfl) Try.func5 (by kernel_rfl)
    (of_decide_eq_true (by kernel_rfl)) (by unfold Func.isWrapper; first | (rw [if_pos (by decide +kernel)]; kernel_rfl) | (rw [if_neg (by decide +kernel)]; exact ⟨rfl, rfl⟩))
    (fun os started H enc _ => lifted os started H enc)

/-- THE STATEMENT -/
theorem proved : Rows.WinForwardsSaid := over
#print axioms proved
end Go.Proofs.Ytnbpgoacooddjaa.winForwards
