import Derived.WalkKit
import Derived.ProofKit
import Derived.OpenShut
import Derived.Deep.QuietTactic
import Derived.BigQuiet
import Derived.Outline
import Derived.WalkSmall
import Derived.WalkLawsBesides
import Derived.WalkSpells
import Derived.BigGuardPart
import Derived.RegionTactic
import Derived.Deep.RegionHeld3
import Derived.Lib.Hide
import Derived.Deep.MidRow
import Derived.Below
import Derived.Deep.RegionWith
import Derived.Deep.OwnRows
import Derived.Deep.AppendLies
import Derived.Deep.RegionLaw
import Derived.Laws.BitsAllLaws
import Derived.Laws.BitsLemmas
import Derived.Deep.CutBlock
import Derived.Deep.DeepCutAuto
import Derived.Deep.CutRange
import Derived.Test.YtnbpgoacooddjaaWc
import Derived.Test.YtnbpgoacooddjaaWk
import Derived.Test.YtnbpgoacooddjaaWp
namespace Go.Proofs.Ytnbpgoacooddjaa
open Go.ChangeShapes Go.WideShapes Go.ChangeAt Go.RowKit
set_option linter.unusedVariables false
/-- What stands while a place is sought. -/
structure Arr (tb : Nat) (x0 x1 : Int) (w : World) (VA LA : Array Value) (wx : World) : Prop where
  a : rowAt wx tb = some #[.int .i64 x0, .int .i64 x1]
  i : rowAt wx (w.heap.size + 1) = some LA
  v : rowAt wx w.heap.size = some VA
  l : Below w.heap.size w wx
theorem hfx (r0 : Rg) (nx ad da : Int) (w' : World) : (Instr.field 232 (.agg (efA r0 nx ad da true)) 2).run Try.prog w' = .ok (.int .u64 ad) w' := by kernel_rfl
theorem ld126 (v : Value) : Instr.loadAt 126 v = ldAt 126 v := rfl
attribute [local go_sem ↓] ld126 ld25 st25
attribute [local go_sem] rowAt_drew rowAt_drewN
set_option maxRecDepth 100000 in
set_option maxHeartbeats 4000000 in
theorem addr_c (F : Nat → WI) (r : Rg) (b off n cap g m i : Nat) (w : World) (HW : Hid (WnC w b off n F)) (HO : Hid (OutC fOf F w g m)) (hi : i ≤ m) (hin : i < n) (hm : m ≤ n) (hn : n ≤ 1000000) :
    Calls Try.prog 78 #[.agg (vwA b off n cap r g m), .int .i64 i] w (ValP (adS fOf F r i) w) := by
  obtain ⟨VA, hVA⟩ : ∃ VA, VA = vwA b off n cap r g m := ⟨_, rfl⟩
  rw [← hVA]
  have HVA := Lib.hid hVA
  clear hVA
  have HB : Hid (rowAt (w.alloc (.cells VA 126)) w.heap.size = some VA) := Lib.hid (rowAt_new _ _ _)
  have HL : Hid (Below w.heap.size w (w.alloc (.cells VA 126))) := Lib.hid ((Below.refl _ _).alloc (Nat.le_refl _) _)
  have HW1 := Lib.hid (HW.out.below HL.out)
  have c0 : (w.alloc (.cells VA 126)).cell? ⟨w.heap.size, 0, none⟩ = some (.slice (some ⟨b, off, none⟩) n cap) := (rowAt_cell HB.out 0).trans (by rw [HVA.out]; exact vwA_0 _ _ _ _ _ _ _)
  obtain ⟨o, ho⟩ : ∃ o, (F i).op = o := ⟨_, rfl⟩
  obtain ⟨d, hd⟩ : ∃ o, (F i).d = o := ⟨_, rfl⟩
  obtain ⟨n0, hn0⟩ : ∃ o, (F i).n = o := ⟨_, rfl⟩
  obtain ⟨m0, hm0⟩ : ∃ o, (F i).m = o := ⟨_, rfl⟩
  obtain ⟨a0, ha0⟩ : ∃ o, (F i).a = o := ⟨_, rfl⟩
  obtain ⟨k0, hk0⟩ : ∃ o, (F i).c = o := ⟨_, rfl⟩
  obtain ⟨i0, hi0⟩ : ∃ o, (F i).i = o := ⟨_, rfl⟩
  have hLI := HW1.out.loadIns i hin
  unfold WI.ins at hLI
  rw [ho, hd, hn0, hm0, ha0, hk0, hi0] at hLI
  have HLI := Lib.hid hLI
  have hg := fOf_good (F i)
  rw [ho, hd, hn0, hm0, ha0, hk0, hi0] at hg
  have HG := Lib.hid hg
  have HT := Lib.hid (touches_c o)
  have HCK := Lib.hid hg.ck
  have HO1 := Lib.hid ho
  have HN1 := Lib.hid hn0
  have HM1 := Lib.hid hm0
  clear hLI hg ho hd hn0 hm0 ha0 hk0 hi0
  cases ht : tchs o
  · have HA : Hid (adS fOf F r i = none) := Lib.hid (by unfold adS; rw [HO1.out, ht]; simp)
    rw [ht] at HT
    clear ht
    go_enter Try.func78, Try.ntmps78
    go_wp2_with (first | (refine wpl_load rfl 29 _ rfl b (off + i * 46 + 1) rfl _ HLI.out ?_) | (go_at_call 159; refine (HT.out _).mono ?_; rintro e w' ⟨rfl, rfl⟩))
    go_ret2
    exact ⟨by rw [HA.out]; rfl, HL.out.alloc HL.out.size _⟩
  · have HTT := Lib.hid ht
    rw [ht] at HT
    clear ht
    by_cases hck : (fOf (F i)).ck = 0
    · have HC0 := Lib.hid hck
      rw [hck] at HCK
      clear hck
      have hI1 : rowAt ((w.alloc (.cells VA 126)).alloc (.cells #[.int .i64 o, .int .i64 d, .int .i64 n0, .int .i64 m0, .int .i64 a0, .int .i64 k0, .int .i64 i0] 29)) (w.heap.size + 1) = some #[.int .i64 o, .int .i64 d, .int .i64 n0, .int .i64 m0, .int .i64 a0, .int .i64 k0, .int .i64 i0] := by
        have h := rowAt_new (w.alloc (.cells VA 126)) #[.int .i64 o, .int .i64 d, .int .i64 n0, .int .i64 m0, .int .i64 a0, .int .i64 k0, .int .i64 i0] 29
        simpa using h
      have HI1 := Lib.hid hI1
      have HL1 := Lib.hid (HL.out.alloc HL.out.size (.cells #[.int .i64 o, .int .i64 d, .int .i64 n0, .int .i64 m0, .int .i64 a0, .int .i64 k0, .int .i64 i0] 29))
      have HB1 := Lib.hid (rowAt_past HB.out (.cells #[.int .i64 o, .int .i64 d, .int .i64 n0, .int .i64 m0, .int .i64 a0, .int .i64 k0, .int .i64 i0] 29))
      clear hI1
      obtain ⟨X0, hX0⟩ : ∃ x, adN (F i) = x := ⟨_, rfl⟩
      obtain ⟨X1, hX1⟩ : ∃ x, adM (F i) = x := ⟨_, rfl⟩
      have HX0 := Lib.hid hX0
      have HX1 := Lib.hid hX1
      unfold adN at hX0
      unfold adM at hX1
      rw [HO1.out, HN1.out] at hX0
      rw [HO1.out, HM1.out] at hX1
      obtain ⟨mb, hmb⟩ : ∃ x, memB o = x := ⟨_, rfl⟩
      have HMm := Lib.hid (memory_c o)
      rw [hmb] at HMm hX0
      have HMB := Lib.hid hmb
      clear hmb
      obtain ⟨bN, hbN⟩ : ∃ x, (n0 == 31) = x := ⟨_, rfl⟩
      obtain ⟨b1, hb1⟩ : ∃ x, (o == 31) = x := ⟨_, rfl⟩
      obtain ⟨b2, hb2⟩ : ∃ x, (o == 32) = x := ⟨_, rfl⟩
      have HX0' : Hid (X0 = if (bN && mb) = true then 32 else n0) := Lib.hid (by rw [← hX0, ← hbN]; simp)
      have HX1' : Hid (X1 = if (b1 || b2) = true then m0 else 31) := Lib.hid (by rw [← hX1, ← hb1, ← hb2]; simp)
      have HbN := Lib.hid hbN
      have Hb1 := Lib.hid hb1
      have Hb2 := Lib.hid hb2
      clear hX0 hX1 hbN hb1 hb2
      go_enter Try.func78, Try.ntmps78
      go_upto_region 5 with (first | (refine wpl_load rfl 29 _ rfl b (off + i * 46 + 1) rfl _ HLI.out ?_) | (go_at_call 159; refine (HT.out _).mono ?_; rintro e w' ⟨rfl, rfl⟩) | (go_at_call 31; refine (HCK.out _).mono ?_; rintro e w2 ⟨rfl, hb⟩; have HL2 := Lib.hid (below_step HL1.out hb rfl rfl rfl rfl); have HI2 := Lib.hid (rowAt_below HI1.out hb rfl); have HB2 := Lib.hid (rowAt_below HB1.out hb rfl); clear hb; have hz1 : w.heap.size + 1 < w2.heap.size := rowAt_lt HI2.out; have hz0 : w.heap.size < w2.heap.size := rowAt_lt HB2.out; have q0 : w2.cell? ⟨w.heap.size + 1, 0, none⟩ = some _ := rowAt_cell HI2.out 0; have q2 : w2.cell? ⟨w.heap.size + 1, 2, none⟩ = some _ := rowAt_cell HI2.out 2; have q3 : w2.cell? ⟨w.heap.size + 1, 3, none⟩ = some _ := rowAt_cell HI2.out 3))
      have HA4 : Hid (rowAt (w2.alloc (.cells #[.int .i64 n0, .int .i64 31] 231)) w2.heap.size = some #[.int .i64 n0, .int .i64 31]) := Lib.hid (rowAt_new _ _ _)
      have HI4 := Lib.hid (rowAt_past HI2.out (.cells #[.int .i64 n0, .int .i64 31] 231))
      have HB4 := Lib.hid (rowAt_past HB2.out (.cells #[.int .i64 n0, .int .i64 31] 231))
      have HL4 := Lib.hid (HL2.out.alloc HL2.out.size (.cells #[.int .i64 n0, .int .i64 31] 231))
      clear q0 q2 q3
      generalize (w2.alloc (.cells #[.int .i64 n0, .int .i64 31] 231)) = W4 at HA4 HI4 HB4 HL4 ⊢
      obtain ⟨tb, htb⟩ : ∃ tb, tb = w2.heap.size := ⟨_, rfl⟩
      rw [← htb] at HA4 hz1 hz0 ⊢
      clear htb HL2 HI2 HB2
      go_cut [35] from 28 to 35 (fun s wx => s = .bool (bN && mb) ∧ wx = W4)
      case first =>
        have q0 : W4.cell? ⟨w.heap.size + 1, 0, none⟩ = some _ := rowAt_cell HI4.out 0
        have q2 : W4.cell? ⟨w.heap.size + 1, 2, none⟩ = some _ := rowAt_cell HI4.out 2
        have eN := HbN.out
        cases bN
        · go_wp2_with fail
          go_meet
          case rel => exact ⟨rfl, rfl⟩
        · go_wp2_with (first | (go_at_call 154; refine (HMm.out _).mono ?_; rintro e w' ⟨rfl, rfl⟩))
          go_meet
          case rel => exact ⟨by cases mb <;> rfl, rfl⟩
      case rest =>
        obtain ⟨hs, hwc⟩ := hcut
        subst hs
        subst hwc
        clear HMm
        go_upto_if 35 with (fail)
        go_cut [] from 36 to 36 (fun wx => Arr tb X0 31 w VA #[.int .i64 o, .int .i64 d, .int .i64 n0, .int .i64 m0, .int .i64 a0, .int .i64 k0, .int .i64 i0] wx)
        case first =>
          have t0 := rowAt_cell HA4.out 0
          have f0 := rowAt_frz HA4.out 0
          have hx := HX0'.out
          cases bN <;> cases mb
          rotate_left 3
          · simp only [Bool.and_self, if_true] at hx
            subst hx
            go_wp2_with fail
            go_meet
            case rel => exact ⟨rowAt_set HA4.out 0 _, rowAt_set_far HI4.out (by omega) _ _, rowAt_set_far HB4.out (by omega) _ _, HL4.out.setCell (p := ⟨tb, 0, none⟩) (by show w.heap.size ≤ tb; omega) _⟩
          all_goals
            simp only [Bool.and_false, Bool.false_and, Bool.and_self, Bool.false_eq_true, if_false] at hx
            subst hx
            go_wp2_with fail
            go_meet
            case rel => exact ⟨HA4.out, HI4.out, HB4.out, HL4.out⟩
        case rest =>
          replace hcut := Lib.hid hcut
          clear HA4 HI4 HB4 HL4
          generalize wc = wc5 at *
          have HC5 := hcut
          clear hcut
          have hz5 : tb < wc5.heap.size := rowAt_lt HC5.out.a
          go_upto_region 7 with (fail)
          go_cut [44] from 37 to 44 (fun s wx => s = .bool (b1 || b2) ∧ wx = wc5)
          case first =>
            have q0 : wc5.cell? ⟨w.heap.size + 1, 0, none⟩ = some _ := rowAt_cell HC5.out.i 0
            have e1 := Hb1.out
            have e2 := Hb2.out
            cases b1
            · go_wp2_with fail
              go_meet
              case rel => exact ⟨by cases b2 <;> rfl, rfl⟩
            · go_wp2_with fail
              go_meet
              case rel => exact ⟨rfl, rfl⟩
          case rest =>
            obtain ⟨hs, hwc⟩ := hcut
            subst hs
            subst hwc
            go_upto_if 44 with (fail)
            go_cut [] from 45 to 47 (fun wx => Arr tb X0 X1 w VA #[.int .i64 o, .int .i64 d, .int .i64 n0, .int .i64 m0, .int .i64 a0, .int .i64 k0, .int .i64 i0] wx)
            case first =>
              have q3 : wc.cell? ⟨w.heap.size + 1, 3, none⟩ = some _ := rowAt_cell HC5.out.i 3
              have t1 := rowAt_cell HC5.out.a 1
              have f1 := rowAt_frz HC5.out.a 1
              have hx := HX1'.out
              cases b1 <;> cases b2
              · simp only [Bool.or_self, Bool.false_eq_true, if_false] at hx
                subst hx
                go_wp2_with fail
                go_meet
                case rel => exact HC5.out
              all_goals
                simp only [Bool.or_true, Bool.true_or, if_true] at hx
                subst hx
                go_wp2_with fail
                go_meet
                case rel => exact ⟨rowAt_set HC5.out.a 1 _, rowAt_set_far HC5.out.i (by omega) _ _, rowAt_set_far HC5.out.v (by omega) _ _, HC5.out.l.setCell (p := ⟨tb, 1, none⟩) (by show w.heap.size ≤ tb; omega) _⟩
            case rest =>
              replace hcut := Lib.hid hcut
              clear HC5 hz5
              generalize wc = W at *
              obtain ⟨r0, hr0⟩ : ∃ r0 : Rg, (inpS fOf F r i [X0, X1] r).getD ⟨fun _ => 0, 0, false, false, false, false⟩ = r0 := ⟨_, rfl⟩
              obtain ⟨kb, hkb⟩ : ∃ kb : Bool, (inpS fOf F r i [X0, X1] r).isSome = kb := ⟨_, rfl⟩
              have HV : Hid (∀ V, Below w.heap.size w V → rowAt V tb = some #[.int .i64 X0, .int .i64 X1] → Calls Try.prog 70 #[.agg VA, .int .i64 i, .slice (some ⟨tb, 0, none⟩) 2 2] V fun e w' => e = .returned (.tuple #[.agg r0.arr, .bool kb]) ∧ Below V.heap.size V w') := Lib.hid (fun V h1 h2 => by
                rw [HVA.out]
                refine (inputs_c fOf F r b off n cap g m i _ [X0, X1] V (Lib.hid (HW.out.below h1)) (Lib.hid (HO.out.below h1)) (Lib.hid (.inr ⟨tb, 0, 2, rfl, rowAt_lt h2, Nat.le_of_ble_eq_true rfl, fun p x hx => by
                  rw [Nat.zero_add, rowAt_cell h2]
                  match p, hx with
                  | 0, hx => simp at hx; subst hx; rfl
                  | 1, hx => simp at hx; subst hx; rfl⟩)) hi hm hn).mono fun e w' hh => ⟨?_, hh.2⟩
                rw [hh.1, ← hr0, ← hkb]
                cases inpS fOf F r i [X0, X1] r <;> rfl)
              have HR0 := Lib.hid hr0
              have HKB := Lib.hid hkb
              clear hr0 hkb
              go_upto_region 9 with (fail)
              go_cut [8, 9] from 48 to 54 (fun s8 s9 wx => ∃ b8, s8 = .pointer (some ⟨b8, 0, none⟩) ∧ s9 = .bool kb ∧ rowAt wx b8 = some r0.arr ∧ rowAt wx (w.heap.size + 1) = some #[.int .i64 o, .int .i64 d, .int .i64 n0, .int .i64 m0, .int .i64 a0, .int .i64 k0, .int .i64 i0] ∧ rowAt wx w.heap.size = some VA ∧ Below w.heap.size w wx)
              case first =>
                have hv := hcut.out.v
                have ha := hcut.out.a
                have hl : ∀ w', rowAt w' w.heap.size = some VA → (ldAt 126 (.pointer (some ⟨w.heap.size, 0, none⟩))).run Try.prog w' = .ok (.agg VA) w' := fun w' h => by rw [HVA.out] at h ⊢; exact vw_all h
                have hst : ∀ b w', rowAt w' b = some #[.int .u64 0, .int .u64 0, .int .u64 0, .int .u64 0, .int .u64 0, .int .u64 0, .int .u64 0, .int .u64 0, .int .u64 0, .int .u64 0, .int .u64 0, .int .u64 0, .int .u64 0, .int .u64 0, .int .u64 0, .int .u64 0, .int .u64 0, .int .u64 0, .int .u64 0, .int .u64 0, .int .u64 0, .int .u64 0, .int .u64 0, .int .u64 0, .int .u64 0, .int .u64 0, .int .u64 0, .int .u64 0, .int .u64 0, .int .u64 0, .int .u64 0, .int .u64 0, .bool false, .bool false, .bool false, .bool false] → (stAt 26 (.pointer (some ⟨b, 0, none⟩)) (.agg r0.arr)).run Try.prog w' = .ok () (w'.setCells b 0 r0.arr.toList) := fun b w' h => st_all h rfl
                have hvd : rowAt W.drew w.heap.size = some VA := hv
                refine wp_region_held_drew (S := fun w' => rowAt w' w.heap.size = some VA) (by kernel_rfl) hvd (fun hHeld => ?_)
                have h0 : rowAt W.drew tb = some #[.int .i64 X0, .int .i64 X1] := ha
                have hi0 : rowAt W.drew (w.heap.size + 1) = some #[.int .i64 o, .int .i64 d, .int .i64 n0, .int .i64 m0, .int .i64 a0, .int .i64 k0, .int .i64 i0] := hcut.out.i
                have hL0 : Below w.heap.size w W.drew := hcut.out.l.drew
                have hlv : w.heap.size < W.drew.heap.size := rowAt_lt hvd
                have hli : w.heap.size + 1 < W.drew.heap.size := rowAt_lt hi0
                generalize W.drew = V at *
                refine wpAnyH_take (i := 0) (oi := { dst := some 49, op := Go.Op.load 126 (Go.Operand.tmp 2), type := 126, pos := "win.go:132", after := #[], guard := none }) (v := ?_) rfl (by kernel_rfl) (by kernel_rfl) (by kernel_rfl) (fun _ _ _ h => h) (Or.inl ⟨by rfl, ?_⟩) (by assumption) ?_
                rotate_left
                · (intro w0 hSw; (try dsimp only at hSw); go_split_ands; go_simp; with_reducible rfl)
                try simp only [Act.put, List.setIfInBounds_toArray, List.set_cons_zero, List.set_cons_succ]
                refine wpAnyH_take (i := 1) (oi := { dst := some 50, op := Go.Op.move (Go.Operand.tmp 1), type := 3, pos := "win.go:132", after := #[], guard := none }) (v := ?_) rfl (by kernel_rfl) (by kernel_rfl) (by kernel_rfl) (fun _ _ _ h => h) (Or.inl ⟨by rfl, ?_⟩) (by assumption) ?_
                rotate_left
                · (intro w0 hSw; (try dsimp only at hSw); go_split_ands; go_simp; with_reducible rfl)
                try simp only [Act.put, List.setIfInBounds_toArray, List.set_cons_zero, List.set_cons_succ]
                refine wpAnyH_take (i := 2) (oi := { dst := some 51, op := Go.Op.slice 231 (Go.Operand.tmp 7) none none none, type := 36, pos := "win.go:132", after := #[], guard := none }) (v := ?_) rfl (by kernel_rfl) (by kernel_rfl) (by kernel_rfl) (fun _ _ _ h => h) (Or.inl ⟨by rfl, ?_⟩) (by assumption) ?_
                rotate_left
                · (intro w0 hSw; (try dsimp only at hSw); go_split_ands; go_simp; with_reducible rfl)
                try simp only [Act.put, List.setIfInBounds_toArray, List.set_cons_zero, List.set_cons_succ]
                refine wpAnyH_ready (rs := [3, 7]) (by kernel_rfl) (by simp) ?_
                refine AllReadyH.cons (o := { dst := some 52, op := Go.Op.call { callee := Go.Callee.value (Go.Operand.func 70), args := #[Go.Operand.tmp 49, Go.Operand.tmp 50, Go.Operand.tmp 51], argTypes := #[126, 3, 36] }, type := 129, pos := "win.go:132", after := #[{ on := 0, ground := Go.Ground.data }, { on := 1, ground := Go.Ground.data }, { on := 2, ground := Go.Ground.data }], guard := none }) rfl (fun K hK => ?_) ?_
                · go_simp
                  go_at_call 70
                  refine (HV.out _ hL0 h0).mono ?_
                  rintro e wa ⟨rfl, hba⟩
                  have hva : rowAt wa w.heap.size = some VA := rowAt_below hvd hba rfl
                  have hia := rowAt_below hi0 hba rfl
                  have hLa := Lib.hid (below_step hL0 hba rfl rfl rfl rfl)
                  clear hba
                  refine hK.out _ _ hva (fun hHeld => ?_)
                  clear hK K
                  try simp only [Act.put, List.setIfInBounds_toArray, List.set_cons_zero, List.set_cons_succ]
                  refine wpAnyH_take (i := 4) (oi := { dst := some 48, op := Go.Op.move (Go.Operand.tmp 52), type := 129, pos := "win.go:132", after := #[{ on := 3, ground := Go.Ground.data }], guard := none }) (v := ?_) rfl (by kernel_rfl) (by kernel_rfl) (by kernel_rfl) (fun _ _ _ h => h) (Or.inl ⟨by rfl, ?_⟩) (by assumption) ?_
                  rotate_left
                  · (intro w0 hSw; (try dsimp only at hSw); go_split_ands; go_simp; with_reducible rfl)
                  try simp only [Act.put, List.setIfInBounds_toArray, List.set_cons_zero, List.set_cons_succ]
                  refine wpAnyH_take (i := 5) (oi := { dst := some 53, op := Go.Op.extract (Go.Operand.tmp 48) 0, type := 26, pos := "win.go:132", after := #[{ on := 4, ground := Go.Ground.data }], guard := none }) (v := ?_) rfl (by kernel_rfl) (by kernel_rfl) (by kernel_rfl) (fun _ _ _ h => h) (Or.inl ⟨by rfl, ?_⟩) (by assumption) ?_
                  rotate_left
                  · (intro w0 hSw; (try dsimp only at hSw); go_split_ands; go_simp; with_reducible rfl)
                  try simp only [Act.put, List.setIfInBounds_toArray, List.set_cons_zero, List.set_cons_succ]
                  refine wpAnyH_take (i := 6) (oi := { dst := some 54, op := Go.Op.extract (Go.Operand.tmp 48) 1, type := 4, pos := "win.go:132", after := #[{ on := 4, ground := Go.Ground.data }, { on := 8, ground := Go.Ground.gcOnly Go.Departure.lateStores }], guard := none }) (v := ?_) rfl (by kernel_rfl) (by kernel_rfl) (by kernel_rfl) (fun _ _ _ h => h) (Or.inl ⟨by rfl, ?_⟩) (by assumption) ?_
                  rotate_left
                  · (intro w0 hSw; (try dsimp only at hSw); go_split_ands; go_simp; with_reducible rfl)
                  try simp only [Act.put, List.setIfInBounds_toArray, List.set_cons_zero, List.set_cons_succ]
                  refine wpAnyH_ready (rs := [7]) (by kernel_rfl) (by simp) ?_
                  refine AllReadyH.cons (o := { dst := some 8, op := Go.Op.alloc 26, type := 0, pos := "win.go:132", after := #[], guard := none }) rfl (fun K hK => ?_) AllReadyH.nil
                  go_simp
                  have hz : rowAt (wa.alloc (.cells #[.int .u64 0, .int .u64 0, .int .u64 0, .int .u64 0, .int .u64 0, .int .u64 0, .int .u64 0, .int .u64 0, .int .u64 0, .int .u64 0, .int .u64 0, .int .u64 0, .int .u64 0, .int .u64 0, .int .u64 0, .int .u64 0, .int .u64 0, .int .u64 0, .int .u64 0, .int .u64 0, .int .u64 0, .int .u64 0, .int .u64 0, .int .u64 0, .int .u64 0, .int .u64 0, .int .u64 0, .int .u64 0, .int .u64 0, .int .u64 0, .int .u64 0, .int .u64 0, .bool false, .bool false, .bool false, .bool false] 26)) wa.heap.size = some #[.int .u64 0, .int .u64 0, .int .u64 0, .int .u64 0, .int .u64 0, .int .u64 0, .int .u64 0, .int .u64 0, .int .u64 0, .int .u64 0, .int .u64 0, .int .u64 0, .int .u64 0, .int .u64 0, .int .u64 0, .int .u64 0, .int .u64 0, .int .u64 0, .int .u64 0, .int .u64 0, .int .u64 0, .int .u64 0, .int .u64 0, .int .u64 0, .int .u64 0, .int .u64 0, .int .u64 0, .int .u64 0, .int .u64 0, .int .u64 0, .int .u64 0, .int .u64 0, .bool false, .bool false, .bool false, .bool false] := rowAt_new _ _ _
                  have hvb := rowAt_past hva (.cells #[.int .u64 0, .int .u64 0, .int .u64 0, .int .u64 0, .int .u64 0, .int .u64 0, .int .u64 0, .int .u64 0, .int .u64 0, .int .u64 0, .int .u64 0, .int .u64 0, .int .u64 0, .int .u64 0, .int .u64 0, .int .u64 0, .int .u64 0, .int .u64 0, .int .u64 0, .int .u64 0, .int .u64 0, .int .u64 0, .int .u64 0, .int .u64 0, .int .u64 0, .int .u64 0, .int .u64 0, .int .u64 0, .int .u64 0, .int .u64 0, .int .u64 0, .int .u64 0, .bool false, .bool false, .bool false, .bool false] 26)
                  have hib := rowAt_past hia (.cells #[.int .u64 0, .int .u64 0, .int .u64 0, .int .u64 0, .int .u64 0, .int .u64 0, .int .u64 0, .int .u64 0, .int .u64 0, .int .u64 0, .int .u64 0, .int .u64 0, .int .u64 0, .int .u64 0, .int .u64 0, .int .u64 0, .int .u64 0, .int .u64 0, .int .u64 0, .int .u64 0, .int .u64 0, .int .u64 0, .int .u64 0, .int .u64 0, .int .u64 0, .int .u64 0, .int .u64 0, .int .u64 0, .int .u64 0, .int .u64 0, .int .u64 0, .int .u64 0, .bool false, .bool false, .bool false, .bool false] 26)
                  have hLb := Lib.hid (hLa.out.alloc hLa.out.size (.cells #[.int .u64 0, .int .u64 0, .int .u64 0, .int .u64 0, .int .u64 0, .int .u64 0, .int .u64 0, .int .u64 0, .int .u64 0, .int .u64 0, .int .u64 0, .int .u64 0, .int .u64 0, .int .u64 0, .int .u64 0, .int .u64 0, .int .u64 0, .int .u64 0, .int .u64 0, .int .u64 0, .int .u64 0, .int .u64 0, .int .u64 0, .int .u64 0, .int .u64 0, .int .u64 0, .int .u64 0, .int .u64 0, .int .u64 0, .int .u64 0, .int .u64 0, .int .u64 0, .bool false, .bool false, .bool false, .bool false] 26))
                  have hlva := rowAt_lt hva
                  have hlia := rowAt_lt hia
                  refine hK.out _ _ hvb (fun hHeld => ?_)
                  clear hK K
                  try simp only [Act.put, List.setIfInBounds_toArray, List.set_cons_zero, List.set_cons_succ]
                  generalize hwb : (wa.alloc (.cells #[.int .u64 0, .int .u64 0, .int .u64 0, .int .u64 0, .int .u64 0, .int .u64 0, .int .u64 0, .int .u64 0, .int .u64 0, .int .u64 0, .int .u64 0, .int .u64 0, .int .u64 0, .int .u64 0, .int .u64 0, .int .u64 0, .int .u64 0, .int .u64 0, .int .u64 0, .int .u64 0, .int .u64 0, .int .u64 0, .int .u64 0, .int .u64 0, .int .u64 0, .int .u64 0, .int .u64 0, .int .u64 0, .int .u64 0, .int .u64 0, .int .u64 0, .int .u64 0, .bool false, .bool false, .bool false, .bool false] 26)) = wb at hz hvb hib hLb hHeld ⊢
                  clear hwb
                  generalize hbb : wa.heap.size = bb at hz hlva hlia ⊢
                  clear hbb
                  refine wpAnyH_ready (rs := [8]) (by kernel_rfl) (by simp) ?_
                  refine AllReadyH.cons (o := { dst := none, op := Go.Op.store 26 (Go.Operand.tmp 8) (Go.Operand.tmp 53), type := 0, pos := "win.go:132", after := #[{ on := 7, ground := Go.Ground.data }, { on := 5, ground := Go.Ground.data }, { on := 3, ground := Go.Ground.chain }, { on := 0, ground := Go.Ground.phase }, { on := 1, ground := Go.Ground.phase }, { on := 2, ground := Go.Ground.phase }, { on := 3, ground := Go.Ground.phase }, { on := 4, ground := Go.Ground.phase }, { on := 5, ground := Go.Ground.phase }, { on := 6, ground := Go.Ground.textOnly Go.Departure.lateStores }, { on := 7, ground := Go.Ground.phase }], guard := none }) rfl (fun K hK => ?_) AllReadyH.nil
                  have hs9 := hst _ _ hz
                  go_simp
                  have hR9 := Lib.hid (setCells_all hz (r0.size.trans (by rfl)))
                  have hv9 := rowAt_grown hvb (setCells_grown r0.arr.toList 0 wb (bb)) (by omega)
                  have hi9 := rowAt_grown hib (setCells_grown r0.arr.toList 0 wb (bb)) (by omega)
                  have hL9 := Lib.hid (grown_below hLb.out (setCells_grown r0.arr.toList 0 wb (bb)) (by omega))
                  refine hK.out _ _ hv9 (fun hHeld => ?_)
                  clear hK K
                  try simp only [Act.put, List.setIfInBounds_toArray, List.set_cons_zero, List.set_cons_succ]
                  generalize (wb.setCells (bb) 0 r0.arr.toList) = wc9 at hR9 hv9 hi9 hL9 hHeld ⊢
                  refine wpAnyH_take (i := 9) (oi := { dst := some 9, op := Go.Op.assign (Go.Operand.tmp 54), type := 4, pos := "win.go:132", after := #[{ on := 6, ground := Go.Ground.data }, { on := 8, ground := Go.Ground.chain }, { on := 0, ground := Go.Ground.phase }, { on := 1, ground := Go.Ground.phase }, { on := 2, ground := Go.Ground.phase }, { on := 3, ground := Go.Ground.phase }, { on := 4, ground := Go.Ground.phase }, { on := 5, ground := Go.Ground.phase }, { on := 6, ground := Go.Ground.phase }, { on := 7, ground := Go.Ground.phase }, { on := 8, ground := Go.Ground.phase }], guard := none }) (v := ?_) rfl (by kernel_rfl) (by kernel_rfl) (by kernel_rfl) (fun _ _ _ h => h) (Or.inl ⟨by rfl, ?_⟩) (by assumption) ?_
                  rotate_left
                  · (intro w0 hSw; (try dsimp only at hSw); go_split_ands; go_simp; with_reducible rfl)
                  try simp only [Act.put, List.setIfInBounds_toArray, List.set_cons_zero, List.set_cons_succ]
                  refine wpAnyH_done (by kernel_rfl) ?_ _
                  clear hHeld
                  go_wp2_with fail
                  go_meet
                  case rel => exact ⟨bb, rfl, rfl, hR9.out, hi9, hv9, hL9.out⟩
                · refine AllReadyH.cons (o := { dst := some 8, op := Go.Op.alloc 26, type := 0, pos := "win.go:132", after := #[], guard := none }) rfl (fun K hK => ?_) AllReadyH.nil
                  go_simp
                  have hz1 : rowAt (V.alloc (.cells #[.int .u64 0, .int .u64 0, .int .u64 0, .int .u64 0, .int .u64 0, .int .u64 0, .int .u64 0, .int .u64 0, .int .u64 0, .int .u64 0, .int .u64 0, .int .u64 0, .int .u64 0, .int .u64 0, .int .u64 0, .int .u64 0, .int .u64 0, .int .u64 0, .int .u64 0, .int .u64 0, .int .u64 0, .int .u64 0, .int .u64 0, .int .u64 0, .int .u64 0, .int .u64 0, .int .u64 0, .int .u64 0, .int .u64 0, .int .u64 0, .int .u64 0, .int .u64 0, .bool false, .bool false, .bool false, .bool false] 26)) V.heap.size = some #[.int .u64 0, .int .u64 0, .int .u64 0, .int .u64 0, .int .u64 0, .int .u64 0, .int .u64 0, .int .u64 0, .int .u64 0, .int .u64 0, .int .u64 0, .int .u64 0, .int .u64 0, .int .u64 0, .int .u64 0, .int .u64 0, .int .u64 0, .int .u64 0, .int .u64 0, .int .u64 0, .int .u64 0, .int .u64 0, .int .u64 0, .int .u64 0, .int .u64 0, .int .u64 0, .int .u64 0, .int .u64 0, .int .u64 0, .int .u64 0, .int .u64 0, .int .u64 0, .bool false, .bool false, .bool false, .bool false] := rowAt_new _ _ _
                  have hv1 := rowAt_past hvd (.cells #[.int .u64 0, .int .u64 0, .int .u64 0, .int .u64 0, .int .u64 0, .int .u64 0, .int .u64 0, .int .u64 0, .int .u64 0, .int .u64 0, .int .u64 0, .int .u64 0, .int .u64 0, .int .u64 0, .int .u64 0, .int .u64 0, .int .u64 0, .int .u64 0, .int .u64 0, .int .u64 0, .int .u64 0, .int .u64 0, .int .u64 0, .int .u64 0, .int .u64 0, .int .u64 0, .int .u64 0, .int .u64 0, .int .u64 0, .int .u64 0, .int .u64 0, .int .u64 0, .bool false, .bool false, .bool false, .bool false] 26)
                  have hi1 := rowAt_past hi0 (.cells #[.int .u64 0, .int .u64 0, .int .u64 0, .int .u64 0, .int .u64 0, .int .u64 0, .int .u64 0, .int .u64 0, .int .u64 0, .int .u64 0, .int .u64 0, .int .u64 0, .int .u64 0, .int .u64 0, .int .u64 0, .int .u64 0, .int .u64 0, .int .u64 0, .int .u64 0, .int .u64 0, .int .u64 0, .int .u64 0, .int .u64 0, .int .u64 0, .int .u64 0, .int .u64 0, .int .u64 0, .int .u64 0, .int .u64 0, .int .u64 0, .int .u64 0, .int .u64 0, .bool false, .bool false, .bool false, .bool false] 26)
                  have h1 := rowAt_past h0 (.cells #[.int .u64 0, .int .u64 0, .int .u64 0, .int .u64 0, .int .u64 0, .int .u64 0, .int .u64 0, .int .u64 0, .int .u64 0, .int .u64 0, .int .u64 0, .int .u64 0, .int .u64 0, .int .u64 0, .int .u64 0, .int .u64 0, .int .u64 0, .int .u64 0, .int .u64 0, .int .u64 0, .int .u64 0, .int .u64 0, .int .u64 0, .int .u64 0, .int .u64 0, .int .u64 0, .int .u64 0, .int .u64 0, .int .u64 0, .int .u64 0, .int .u64 0, .int .u64 0, .bool false, .bool false, .bool false, .bool false] 26)
                  have hL1 := hL0.alloc hL0.size (.cells #[.int .u64 0, .int .u64 0, .int .u64 0, .int .u64 0, .int .u64 0, .int .u64 0, .int .u64 0, .int .u64 0, .int .u64 0, .int .u64 0, .int .u64 0, .int .u64 0, .int .u64 0, .int .u64 0, .int .u64 0, .int .u64 0, .int .u64 0, .int .u64 0, .int .u64 0, .int .u64 0, .int .u64 0, .int .u64 0, .int .u64 0, .int .u64 0, .int .u64 0, .int .u64 0, .int .u64 0, .int .u64 0, .int .u64 0, .int .u64 0, .int .u64 0, .int .u64 0, .bool false, .bool false, .bool false, .bool false] 26)
                  refine hK.out _ _ hv1 (fun hHeld => ?_)
                  clear hK K
                  try simp only [Act.put, List.setIfInBounds_toArray, List.set_cons_zero, List.set_cons_succ]
                  refine wpAnyH_ready (rs := [3]) (by kernel_rfl) (by simp) ?_
                  refine AllReadyH.cons (o := { dst := some 52, op := Go.Op.call { callee := Go.Callee.value (Go.Operand.func 70), args := #[Go.Operand.tmp 49, Go.Operand.tmp 50, Go.Operand.tmp 51], argTypes := #[126, 3, 36] }, type := 129, pos := "win.go:132", after := #[{ on := 0, ground := Go.Ground.data }, { on := 1, ground := Go.Ground.data }, { on := 2, ground := Go.Ground.data }], guard := none }) rfl (fun K hK => ?_) AllReadyH.nil
                  go_simp
                  go_at_call 70
                  refine (HV.out _ hL1 h1).mono ?_
                  rintro e wb ⟨rfl, hba⟩
                  have hvb : rowAt wb w.heap.size = some VA := rowAt_below hv1 hba rfl
                  have hib := rowAt_below hi1 hba rfl
                  have hz := rowAt_below hz1 hba rfl
                  have hLb := Lib.hid (below_step hL1 hba rfl rfl rfl rfl)
                  clear hba
                  refine hK.out _ _ hvb (fun hHeld => ?_)
                  clear hK K
                  try simp only [Act.put, List.setIfInBounds_toArray, List.set_cons_zero, List.set_cons_succ]
                  refine wpAnyH_take (i := 4) (oi := { dst := some 48, op := Go.Op.move (Go.Operand.tmp 52), type := 129, pos := "win.go:132", after := #[{ on := 3, ground := Go.Ground.data }], guard := none }) (v := ?_) rfl (by kernel_rfl) (by kernel_rfl) (by kernel_rfl) (fun _ _ _ h => h) (Or.inl ⟨by rfl, ?_⟩) (by assumption) ?_
                  rotate_left
                  · (intro w0 hSw; (try dsimp only at hSw); go_split_ands; go_simp; with_reducible rfl)
                  try simp only [Act.put, List.setIfInBounds_toArray, List.set_cons_zero, List.set_cons_succ]
                  refine wpAnyH_take (i := 5) (oi := { dst := some 53, op := Go.Op.extract (Go.Operand.tmp 48) 0, type := 26, pos := "win.go:132", after := #[{ on := 4, ground := Go.Ground.data }], guard := none }) (v := ?_) rfl (by kernel_rfl) (by kernel_rfl) (by kernel_rfl) (fun _ _ _ h => h) (Or.inl ⟨by rfl, ?_⟩) (by assumption) ?_
                  rotate_left
                  · (intro w0 hSw; (try dsimp only at hSw); go_split_ands; go_simp; with_reducible rfl)
                  try simp only [Act.put, List.setIfInBounds_toArray, List.set_cons_zero, List.set_cons_succ]
                  refine wpAnyH_take (i := 6) (oi := { dst := some 54, op := Go.Op.extract (Go.Operand.tmp 48) 1, type := 4, pos := "win.go:132", after := #[{ on := 4, ground := Go.Ground.data }, { on := 8, ground := Go.Ground.gcOnly Go.Departure.lateStores }], guard := none }) (v := ?_) rfl (by kernel_rfl) (by kernel_rfl) (by kernel_rfl) (fun _ _ _ h => h) (Or.inl ⟨by rfl, ?_⟩) (by assumption) ?_
                  rotate_left
                  · (intro w0 hSw; (try dsimp only at hSw); go_split_ands; go_simp; with_reducible rfl)
                  try simp only [Act.put, List.setIfInBounds_toArray, List.set_cons_zero, List.set_cons_succ]
                  refine wpAnyH_ready (rs := [8]) (by kernel_rfl) (by simp) ?_
                  refine AllReadyH.cons (o := { dst := none, op := Go.Op.store 26 (Go.Operand.tmp 8) (Go.Operand.tmp 53), type := 0, pos := "win.go:132", after := #[{ on := 7, ground := Go.Ground.data }, { on := 5, ground := Go.Ground.data }, { on := 3, ground := Go.Ground.chain }, { on := 0, ground := Go.Ground.phase }, { on := 1, ground := Go.Ground.phase }, { on := 2, ground := Go.Ground.phase }, { on := 3, ground := Go.Ground.phase }, { on := 4, ground := Go.Ground.phase }, { on := 5, ground := Go.Ground.phase }, { on := 6, ground := Go.Ground.textOnly Go.Departure.lateStores }, { on := 7, ground := Go.Ground.phase }], guard := none }) rfl (fun K hK => ?_) AllReadyH.nil
                  have hs9 := hst _ _ hz
                  go_simp
                  have hR9 := Lib.hid (setCells_all hz (r0.size.trans (by rfl)))
                  have hv9 := rowAt_grown hvb (setCells_grown r0.arr.toList 0 wb (V.heap.size)) (by omega)
                  have hi9 := rowAt_grown hib (setCells_grown r0.arr.toList 0 wb (V.heap.size)) (by omega)
                  have hL9 := Lib.hid (grown_below hLb.out (setCells_grown r0.arr.toList 0 wb (V.heap.size)) (by omega))
                  refine hK.out _ _ hv9 (fun hHeld => ?_)
                  clear hK K
                  try simp only [Act.put, List.setIfInBounds_toArray, List.set_cons_zero, List.set_cons_succ]
                  generalize (wb.setCells (V.heap.size) 0 r0.arr.toList) = wc9 at hR9 hv9 hi9 hL9 hHeld ⊢
                  refine wpAnyH_take (i := 9) (oi := { dst := some 9, op := Go.Op.assign (Go.Operand.tmp 54), type := 4, pos := "win.go:132", after := #[{ on := 6, ground := Go.Ground.data }, { on := 8, ground := Go.Ground.chain }, { on := 0, ground := Go.Ground.phase }, { on := 1, ground := Go.Ground.phase }, { on := 2, ground := Go.Ground.phase }, { on := 3, ground := Go.Ground.phase }, { on := 4, ground := Go.Ground.phase }, { on := 5, ground := Go.Ground.phase }, { on := 6, ground := Go.Ground.phase }, { on := 7, ground := Go.Ground.phase }, { on := 8, ground := Go.Ground.phase }], guard := none }) (v := ?_) rfl (by kernel_rfl) (by kernel_rfl) (by kernel_rfl) (fun _ _ _ h => h) (Or.inl ⟨by rfl, ?_⟩) (by assumption) ?_
                  rotate_left
                  · (intro w0 hSw; (try dsimp only at hSw); go_split_ands; go_simp; with_reducible rfl)
                  try simp only [Act.put, List.setIfInBounds_toArray, List.set_cons_zero, List.set_cons_succ]
                  refine wpAnyH_done (by kernel_rfl) ?_ _
                  clear hHeld
                  go_wp2_with fail
                  go_meet
                  case rel => exact ⟨V.heap.size, rfl, rfl, hR9.out, hi9, hv9, hL9.out⟩
              case rest =>
                obtain ⟨b8, hs8, hs9, hR8, hI8, hV8, hL8⟩ := hcut
                subst hs8
                subst hs9
                cases kb
                · have HA : Hid (adS fOf F r i = none) := Lib.hid (by
                    unfold adS
                    rw [HO1.out, HTT.out, HC0.out, HX0.out, HX1.out]
                    simp only [and_self, if_true]
                    have := HKB.out
                    cases hh : inpS fOf F r i [X0, X1] r with
                    | none => rfl
                    | some x => rw [hh] at this; cases this)
                  go_wp2
                  go_ret2
                  exact ⟨by rw [HA.out]; rfl, hL8⟩
                · have HA : Hid (adS fOf F r i = some ((fOf (F i)).ad (F i).pc r0)) := Lib.hid (by
                    unfold adS
                    rw [HO1.out, HTT.out, HC0.out, HX0.out, HX1.out]
                    simp only [and_self, if_true]
                    have h1 := HKB.out
                    have h2 := HR0.out
                    cases hh : inpS fOf F r i [X0, X1] r with
                    | none => rw [hh] at h1; cases h1
                    | some x => rw [hh] at h2; simp only [Option.getD_some] at h2; rw [h2])
                  have HDo := Lib.hid (HG.out.ad HTT.out HC0.out (F i).pc r0)
                  go_upto_region 12 with (fail)
                  have hRl : ∀ w', rowAt w' b8 = some r0.arr → (ldAt 26 (.pointer (some ⟨b8, 0, none⟩))).run Try.prog w' = .ok (.agg r0.arr) w' := fun w' h => reg_all h
                  have z0 : wc.drew.cell? ⟨w.heap.size, 0, none⟩ = some (.slice (some ⟨b, off, none⟩) n cap) := (rowAt_cell hV8 0).trans (by rw [HVA.out]; exact vwA_0 _ _ _ _ _ _ _)
                  have kp : wc.drew.cell? ⟨b, off + i * 46, none⟩ = some (.int .u64 (F i).pc) := (HW.out.below hL8).pc i hin
                  have hI9 : rowAt wc.drew (w.heap.size + 1) = some #[.int .i64 o, .int .i64 d, .int .i64 n0, .int .i64 m0, .int .i64 a0, .int .i64 k0, .int .i64 i0] := hI8
                  have hR9 : rowAt wc.drew b8 = some r0.arr := hR8
                  have hL9 := Lib.hid hL8.drew
                  generalize (fOf (F i)).ad (F i).pc r0 = ad at HA HDo
                  generalize (F i).pc = pc at kp HDo
                  refine wp_region_held_drew (S := fun w' => w'.cell? ⟨w.heap.size, 0, none⟩ = some (.slice (some ⟨b, off, none⟩) n cap) ∧ w'.cell? ⟨b, off + i * 46, none⟩ = some (.int .u64 pc) ∧ rowAt w' b8 = some r0.arr ∧ w'.cell? ⟨w.heap.size + 1, 0, none⟩ = some (.int .i64 o) ∧ w'.cell? ⟨w.heap.size + 1, 1, none⟩ = some (.int .i64 d) ∧ w'.cell? ⟨w.heap.size + 1, 2, none⟩ = some (.int .i64 n0) ∧ w'.cell? ⟨w.heap.size + 1, 3, none⟩ = some (.int .i64 m0) ∧ w'.cell? ⟨w.heap.size + 1, 4, none⟩ = some (.int .i64 a0) ∧ w'.cell? ⟨w.heap.size + 1, 5, none⟩ = some (.int .i64 k0) ∧ w'.cell? ⟨w.heap.size + 1, 6, none⟩ = some (.int .i64 i0)) (by kernel_rfl) ⟨z0, kp, hR9, rowAt_cell hI9 0, rowAt_cell hI9 1, rowAt_cell hI9 2, rowAt_cell hI9 3, rowAt_cell hI9 4, rowAt_cell hI9 5, rowAt_cell hI9 6⟩ (fun hHeld => ?_)
                  refine wpAnyH_take (i := 0) (oi := { dst := some 57, op := Go.Op.load 29 (Go.Operand.tmp 6), type := 29, pos := "win.go:136", after := #[], guard := none }) (v := ?_) rfl (by kernel_rfl) (by kernel_rfl) (by kernel_rfl) (fun _ _ _ h => h) (Or.inl ⟨by rfl, ?_⟩) (by assumption) ?_
                  rotate_left
                  · (intro w0 hSw; (try dsimp only at hSw); go_split_ands; go_simp; with_reducible rfl)
                  try simp only [Act.put, List.setIfInBounds_toArray, List.set_cons_zero, List.set_cons_succ]
                  refine wpAnyH_take (i := 1) (oi := { dst := some 58, op := Go.Op.fieldAddr 126 (Go.Operand.tmp 2) 0, type := 0, pos := "win.go:136", after := #[], guard := none }) (v := ?_) rfl (by kernel_rfl) (by kernel_rfl) (by kernel_rfl) (fun _ _ _ h => h) (Or.inl ⟨by rfl, ?_⟩) (by assumption) ?_
                  rotate_left
                  · (intro w0 hSw; (try dsimp only at hSw); go_split_ands; go_simp; with_reducible rfl)
                  try simp only [Act.put, List.setIfInBounds_toArray, List.set_cons_zero, List.set_cons_succ]
                  refine wpAnyH_take (i := 2) (oi := { dst := some 59, op := Go.Op.load 22 (Go.Operand.tmp 58), type := 22, pos := "win.go:136", after := #[{ on := 1, ground := Go.Ground.data }], guard := none }) (v := ?_) rfl (by kernel_rfl) (by kernel_rfl) (by kernel_rfl) (fun _ _ _ h => h) (Or.inl ⟨by rfl, ?_⟩) (by assumption) ?_
                  rotate_left
                  · (intro w0 hSw; (try dsimp only at hSw); go_split_ands; go_simp; with_reducible rfl)
                  try simp only [Act.put, List.setIfInBounds_toArray, List.set_cons_zero, List.set_cons_succ]
                  refine wpAnyH_take (i := 3) (oi := { dst := some 60, op := Go.Op.move (Go.Operand.tmp 1), type := 3, pos := "win.go:136", after := #[], guard := none }) (v := ?_) rfl (by kernel_rfl) (by kernel_rfl) (by kernel_rfl) (fun _ _ _ h => h) (Or.inl ⟨by rfl, ?_⟩) (by assumption) ?_
                  rotate_left
                  · (intro w0 hSw; (try dsimp only at hSw); go_split_ands; go_simp; with_reducible rfl)
                  try simp only [Act.put, List.setIfInBounds_toArray, List.set_cons_zero, List.set_cons_succ]
                  refine wpAnyH_take (i := 4) (oi := { dst := some 61, op := Go.Op.indexAddr 22 (Go.Operand.tmp 59) (Go.Operand.tmp 60), type := 0, pos := "win.go:136", after := #[{ on := 2, ground := Go.Ground.data }, { on := 3, ground := Go.Ground.data }], guard := none }) (v := ?_) rfl (by kernel_rfl) (by kernel_rfl) (by kernel_rfl) (fun _ _ _ h => h) (Or.inl ⟨by rfl, ?_⟩) (by assumption) ?_
                  rotate_left
                  · (intro w0 hSw; (try dsimp only at hSw); go_split_ands; go_simp; with_reducible rfl)
                  try simp only [Act.put, List.setIfInBounds_toArray, List.set_cons_zero, List.set_cons_succ]
                  refine wpAnyH_take (i := 5) (oi := { dst := some 62, op := Go.Op.fieldAddr 31 (Go.Operand.tmp 61) 0, type := 0, pos := "win.go:136", after := #[{ on := 4, ground := Go.Ground.data }], guard := none }) (v := ?_) rfl (by kernel_rfl) (by kernel_rfl) (by kernel_rfl) (fun _ _ _ h => h) (Or.inl ⟨by rfl, ?_⟩) (by assumption) ?_
                  rotate_left
                  · (intro w0 hSw; (try dsimp only at hSw); go_split_ands; go_simp; with_reducible rfl)
                  try simp only [Act.put, List.setIfInBounds_toArray, List.set_cons_zero, List.set_cons_succ]
                  refine wpAnyH_take (i := 6) (oi := { dst := some 63, op := Go.Op.load 23 (Go.Operand.tmp 62), type := 23, pos := "win.go:136", after := #[{ on := 5, ground := Go.Ground.data }], guard := none }) (v := ?_) rfl (by kernel_rfl) (by kernel_rfl) (by kernel_rfl) (fun _ _ _ h => h) (Or.inl ⟨by rfl, ?_⟩) (by assumption) ?_
                  rotate_left
                  · (intro w0 hSw; (try dsimp only at hSw); go_split_ands; go_simp; with_reducible rfl)
                  try simp only [Act.put, List.setIfInBounds_toArray, List.set_cons_zero, List.set_cons_succ]
                  refine wpAnyH_take (i := 7) (oi := { dst := some 64, op := Go.Op.load 26 (Go.Operand.tmp 8), type := 26, pos := "win.go:136", after := #[], guard := none }) (v := ?_) rfl (by kernel_rfl) (by kernel_rfl) (by kernel_rfl) (fun _ _ _ h => h) (Or.inl ⟨by rfl, ?_⟩) (by assumption) ?_
                  rotate_left
                  · (intro w0 hSw; (try dsimp only at hSw); go_split_ands; go_simp; with_reducible rfl)
                  try simp only [Act.put, List.setIfInBounds_toArray, List.set_cons_zero, List.set_cons_succ]
                  refine wpAnyH_ready (rs := [8]) (by kernel_rfl) (by simp) ?_
                  refine AllReadyH.cons (o := { dst := some 65, op := Go.Op.call { callee := Go.Callee.value (Go.Operand.func 163), args := #[Go.Operand.tmp 57, Go.Operand.tmp 63, Go.Operand.tmp 64], argTypes := #[29, 23, 26] }, type := 232, pos := "win.go:136", after := #[{ on := 0, ground := Go.Ground.data }, { on := 6, ground := Go.Ground.data }, { on := 7, ground := Go.Ground.data }], guard := none }) rfl (fun K hK => ?_) AllReadyH.nil
                  go_simp
                  go_at_call 163
                  refine (HDo.out _).mono ?_
                  rintro e wd ⟨nx, da, rfl, hbd⟩
                  have hf := fun w' => hfx r0 nx ad da w'
                  generalize efA r0 nx ad da true = Ef at hf ⊢
                  have hI10 := rowAt_below hI9 hbd rfl
                  have hR10 := rowAt_below hR9 hbd rfl
                  have q0 := (hbd.cell (p := ⟨w.heap.size, 0, none⟩) (rowAt_lt hV8)).trans z0
                  have qp := (hbd.cell (p := ⟨b, off + i * 46, none⟩) (Nat.lt_of_lt_of_le HW.out.1 hL9.out.size)).trans kp
                  have hL10 := Lib.hid (below_step hL9.out hbd rfl rfl rfl rfl)
                  clear hbd
                  refine hK.out _ _ ⟨q0, qp, hR10, rowAt_cell hI10 0, rowAt_cell hI10 1, rowAt_cell hI10 2, rowAt_cell hI10 3, rowAt_cell hI10 4, rowAt_cell hI10 5, rowAt_cell hI10 6⟩ (fun hHeld => ?_)
                  clear hK K
                  try simp only [Act.put, List.setIfInBounds_toArray, List.set_cons_zero, List.set_cons_succ]
                  refine wpAnyH_take (i := 9) (oi := { dst := some 66, op := Go.Op.field 232 (Go.Operand.tmp 65) 2, type := 23, pos := "win.go:136", after := #[{ on := 8, ground := Go.Ground.data }], guard := none }) (v := ?_) rfl (by kernel_rfl) (by kernel_rfl) (by kernel_rfl) (fun _ _ _ h => h) (Or.inl ⟨by rfl, ?_⟩) (by assumption) ?_
                  rotate_left
                  · (intro w0 hSw; (try dsimp only at hSw); go_split_ands; go_simp; with_reducible rfl)
                  try simp only [Act.put, List.setIfInBounds_toArray, List.set_cons_zero, List.set_cons_succ]
                  refine wpAnyH_take (i := 10) (oi := { dst := some 4, op := Go.Op.assign (Go.Operand.tmp 66), type := 23, pos := "win.go:136", after := #[{ on := 9, ground := Go.Ground.data }, { on := 8, ground := Go.Ground.chain }, { on := 0, ground := Go.Ground.phase }, { on := 1, ground := Go.Ground.phase }, { on := 2, ground := Go.Ground.phase }, { on := 3, ground := Go.Ground.phase }, { on := 4, ground := Go.Ground.phase }, { on := 5, ground := Go.Ground.phase }, { on := 6, ground := Go.Ground.phase }, { on := 7, ground := Go.Ground.phase }, { on := 8, ground := Go.Ground.phase }, { on := 9, ground := Go.Ground.phase }], guard := none }) (v := ?_) rfl (by kernel_rfl) (by kernel_rfl) (by kernel_rfl) (fun _ _ _ h => h) (Or.inl ⟨by rfl, ?_⟩) (by assumption) ?_
                  rotate_left
                  · (intro w0 hSw; (try dsimp only at hSw); go_split_ands; go_simp; with_reducible rfl)
                  try simp only [Act.put, List.setIfInBounds_toArray, List.set_cons_zero, List.set_cons_succ]
                  refine wpAnyH_take (i := 11) (oi := { dst := some 5, op := Go.Op.assign (Go.Operand.const (Go.Value.bool true)), type := 4, pos := "win.go:136", after := #[{ on := 10, ground := Go.Ground.chain }, { on := 0, ground := Go.Ground.phase }, { on := 1, ground := Go.Ground.phase }, { on := 2, ground := Go.Ground.phase }, { on := 3, ground := Go.Ground.phase }, { on := 4, ground := Go.Ground.phase }, { on := 5, ground := Go.Ground.phase }, { on := 6, ground := Go.Ground.phase }, { on := 7, ground := Go.Ground.phase }, { on := 8, ground := Go.Ground.phase }, { on := 9, ground := Go.Ground.phase }, { on := 10, ground := Go.Ground.phase }], guard := none }) (v := ?_) rfl (by kernel_rfl) (by kernel_rfl) (by kernel_rfl) (fun _ _ _ h => h) (Or.inl ⟨by rfl, ?_⟩) (by assumption) ?_
                  rotate_left
                  · (intro w0 hSw; (try dsimp only at hSw); go_split_ands; go_simp; with_reducible rfl)
                  try simp only [Act.put, List.setIfInBounds_toArray, List.set_cons_zero, List.set_cons_succ]
                  refine wpAnyH_done (by kernel_rfl) ?_ _
                  clear hHeld
                  go_wp2_with fail
                  go_ret2
                  exact ⟨by rw [HA.out]; rfl, hL10.out⟩
    · have HA : Hid (adS fOf F r i = none) := Lib.hid (by unfold adS; rw [if_neg (by simp [hck])])
      generalize (fOf (F i)).ck = ck at *
      have e1 : (ck != 0) = true := by simpa using hck
      clear hck
      go_enter Try.func78, Try.ntmps78
      go_wp2_with (first | (refine wpl_load rfl 29 _ rfl b (off + i * 46 + 1) rfl _ HLI.out ?_) | (go_at_call 159; refine (HT.out _).mono ?_; rintro e w' ⟨rfl, rfl⟩) | (go_at_call 31; refine (HCK.out _).mono ?_; rintro e w2 ⟨rfl, hb⟩; have HL2 := Lib.hid (below_step (HL.out.alloc HL.out.size _) hb rfl rfl rfl rfl); clear hb))
      go_ret2
      exact ⟨by rw [HA.out]; rfl, HL2.out⟩
end Go.Proofs.Ytnbpgoacooddjaa
