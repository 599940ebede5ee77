import Derived.WalkKit
import Derived.ProofKit
import Derived.OpenShut
import Derived.Deep.QuietTactic
import Derived.BigQuiet
import Derived.Outline
import Derived.WalkSmall
import Derived.WalkLawsBesides
import Derived.WalkSpells
import Derived.BigGuardPart
import Derived.RegionTactic
import Derived.Deep.RegionHeld3
import Derived.Lib.Hide
import Derived.Deep.MidRow
import Derived.Below
import Derived.Deep.RegionWith
import Derived.Deep.OwnRows
import Derived.Deep.AppendLies
import Derived.Deep.RegionLaw
import Derived.Laws.BitsAllLaws
import Derived.Laws.BitsLemmas
import Derived.Deep.CutBlock
import Derived.Deep.DeepCutAuto
import Derived.Deep.CutRange
import Derived.RangeFuncNested
import Derived.RangeFuncBound
import Derived.RangeFuncCalls
import Derived.RangeFuncLeaves
import Derived.RangeFuncBox
import Derived.Shelf.Abstract
import Derived.Shelf.RegionOpen
import Derived.OwnWalkIn
import Derived.TacticsInMore
import Derived.LoopNIn
import Derived.LoopIn
import Derived.Scope
import Derived.Test.YtnbpgoacooddjaaWm
import Derived.Test.YtnbpgoacooddjaaWs
namespace Go.Proofs.Ytnbpgoacooddjaa
open Go.ChangeShapes Go.WideShapes Go.ChangeAt Go.RowKit Go.Shelf
set_option linter.unusedVariables false
attribute [local go_sem ↓] ld29 ld126 ld25 st25 ld136 st136
attribute [local go_sem] rowAt_drew rowAt_drewN Oper.semAt_some
/-- Whether an instruction waits for one ahead of it. -/
theorem wp_narrow {P : Program} {c : Code} {K : Act → World → Prop} {Q : Exit → Act → World → Prop} {a : Act} {w : World} (h : c.wp P (Exit.then K (fun _ _ _ => False)) a w) : c.wp P (Exit.then K Q) a w :=
  wp_mono h (fun e a w he => by
    cases e
    case normal => exact he
    all_goals exact False.elim he)
theorem rowI_from {wi W : World} {a : Option Addr} {cp B0 : Nat} {T : List Int} (hl : T.length ≤ 6) (HC : Hid (∀ p x, (Fr.puts T)[p]? = some x → ∃ bb, a = some ⟨bb, 0, none⟩ ∧ B0 ≤ bb ∧ bb < wi.heap.size ∧ wi.cell? ⟨bb, p, none⟩ = some (.int .i64 x))) (hb : Below wi.heap.size wi W) : RowI W (.slice a (Fr.puts T).length cp) (Fr.puts T) := by
  have hlen := Fr.puts_length T
  cases hT : Fr.puts T with
  | nil => exact .inl ⟨rfl, a, cp, rfl⟩
  | cons x xs =>
    obtain ⟨bb, ha, h1, h2, h3⟩ := HC.out 0 x (by rw [hT]; rfl)
    subst ha
    refine .inr ⟨bb, 0, cp, rfl, Nat.lt_of_lt_of_le h2 hb.size, by rw [← hT]; omega, fun p y hy => ?_⟩
    obtain ⟨bb', ha', _, h2', h3'⟩ := HC.out p y (by rw [hT]; exact hy)
    injection ha' with ha'
    injection ha' with ha'
    subst ha'
    rw [Nat.zero_add]
    exact (hb.cell (p := ⟨bb, p, none⟩) h2').trans h3'
noncomputable def waitB (F : Nat → WI) (base : Rg) (i j : Nat) : Bool := barB (F i).op (F j).op (F j).i || kindB (F i).op (F j).op (F i).i || placeB (F i).op (F j).op (adS fOf F base j) (adS fOf F base i) (fwdS fOf F base i).isSome
noncomputable def mayS (F : Nat → WI) (base : Rg) (i : Nat) : Int :=
  if (F i).dn = true then 9
  else if (inpS fOf F base i (fOf (F i)).inL base).isSome = false then 9
  else if (und F i).any (fun x => waitB F base i x.toNat) = true then 9
  else 0
set_option maxRecDepth 100000 in
set_option maxHeartbeats 8000000 in
theorem may_c (F : Nat → WI) (base : Rg) (b off n cap i : Nat) (w : World) (HW : Hid (WnC w b off n F)) (hr : base.within) (hF : ∀ j, j < n → (F j).r.within) (hin : i < n) (hcap : n ≤ cap) (hn : n ≤ 1000000) :
    Calls Try.prog 14 #[.slice (some ⟨b, off, none⟩) n cap, .int .i64 i, .agg base.arr] w fun e w' => e = .returned (.int .i64 (mayS F base i)) ∧ Below w.heap.size w w' := by
  have HB : Hid (rowAt (w.alloc (.cells base.arr 26)) w.heap.size = some base.arr) := Lib.hid (rowAt_new _ _ _)
  have HL : Hid (Below w.heap.size w (w.alloc (.cells base.arr 26))) := Lib.hid ((Below.refl _ _).alloc (Nat.le_refl _) _)
  have HSee := Lib.hid (see_c F base b off n cap i _ (Lib.hid (HW.out.below HL.out)) hin hn)
  refine (callsIn_wide (n := 5)).1 ?_
  refine callsIn_of_wp_marks Try.func14 rfl trivial ?_ rfl
  simp only [Try.ntmps14, List.size_toArray, List.length_cons, List.length_nil, Nat.reduceAdd, Nat.reduceSub, Array.replicate_succ, Array.replicate_zero, List.push_toArray, List.append_toArray, List.nil_append, List.cons_append]
  refine wpIn_wide.2 ?_
  go_wp2_with fail
  refine wp_scope_straight ?_
  go_upto_region 2 with (first | (refine wpl_load rfl 26 _ rfl w.heap.size 0 rfl base.arr (reg_all HB.out) ?_) | (go_at_call 69; refine (HSee.out).mono ?_; rintro e w2 ⟨g, rfl, hO, hb⟩; have HO2 := Lib.hid hO; have HL2 := Lib.hid (below_step HL.out hb rfl rfl rfl rfl); clear hO hb) | (refine wpl_store rfl 126 _ _ rfl w2.heap.size (vwA b off n cap base g i) #[.slice none 0 0, .int .u64 0, .int .u64 0, .int .u64 0, .int .u64 0, .int .u64 0, .int .u64 0, .int .u64 0, .int .u64 0, .int .u64 0, .int .u64 0, .int .u64 0, .int .u64 0, .int .u64 0, .int .u64 0, .int .u64 0, .int .u64 0, .int .u64 0, .int .u64 0, .int .u64 0, .int .u64 0, .int .u64 0, .int .u64 0, .int .u64 0, .int .u64 0, .int .u64 0, .int .u64 0, .int .u64 0, .int .u64 0, .int .u64 0, .int .u64 0, .int .u64 0, .int .u64 0, .bool false, .bool false, .bool false, .bool false, .slice none 0 0] rfl rfl (rowAt_new _ _ _) (by rw [vwA_size]; exact info126) (by rw [vwA_size]; rfl) (vwA_one _ _ _ _ _ _ _) ?_; intro w3 hrow hg; have HR3 := Lib.hid hrow; have HO3 := Lib.hid ((HO2.out.below ((Below.refl _ _).alloc (Nat.le_refl _) _)).grown hg (Nat.ne_of_lt HO2.out.1)); have HL3 := Lib.hid (grown_below (HL2.out.alloc HL2.out.size _) hg HL2.out.size); have HW3 := Lib.hid (HW.out.below HL3.out); clear hrow hg))
  generalize hvb : w2.heap.size = vb at HR3 HO3 ⊢
  clear hvb HL2 HO2 HSee HB HL
  have cd := HW3.out.dn i hin
  cases hd : (F i).dn
  · rw [hd] at cd
    have HD := Lib.hid hd
    clear hd
    obtain ⟨T, hT1, hTl, hT4⟩ := (fOf_good (F i)).inl
    have HIN := Lib.hid hT4
    obtain ⟨R0, hR0⟩ : ∃ R0 : Rg, (inpS fOf F base i (Fr.puts T) base).getD ⟨fun _ => 0, 0, false, false, false, false⟩ = R0 := ⟨_, rfl⟩
    obtain ⟨kb, hkb⟩ : ∃ kb : Bool, (inpS fOf F base i (Fr.puts T) base).isSome = kb := ⟨_, rfl⟩
    have HINP : Hid (∀ V v, Below w.heap.size w V → OutC fOf F V g i → RowI V v (Fr.puts T) → Calls Try.prog 70 #[.agg (vwA b off n cap base g i), .int .i64 i, v] V fun e w' => e = .returned (.tuple #[.agg R0.arr, .bool kb]) ∧ Below V.heap.size V w') := Lib.hid (fun V v h1 h2 h3 => by
      refine (inputs_c fOf F base b off n cap g i i v (Fr.puts T) V (Lib.hid (HW.out.below h1)) (Lib.hid h2) (Lib.hid h3) (Nat.le_refl _) (by omega) hn).mono fun e w' hh => ⟨?_, hh.2⟩
      rw [hh.1, ← hR0, ← hkb]
      cases inpS fOf F base i (Fr.puts T) base <;> rfl)
    have HT1 := Lib.hid hT1
    have HKB := Lib.hid hkb
    clear hT4 hT1 hR0 hkb
    go_upto_region 6 with (fail)
    clear cd
    go_cut [9, 10] from 30 to 41 (fun s9 s10 wx => s10 = .bool kb ∧ rowAt wx vb = some (vwA b off n cap base g i) ∧ WnC wx b off n F ∧ OutC fOf F wx g i ∧ Below w.heap.size w wx)
    case first =>
      have hv0 : rowAt w3.drew vb = some (vwA b off n cap base g i) := HR3.out
      have hL0 : Below w.heap.size w w3.drew := HL3.out.drew
      have hw0 : WnC w3.drew b off n F := HW.out.below hL0
      have hO0 : OutC fOf F w3.drew g i := HO3.out
      have hlV : ∀ w', rowAt w' vb = some (vwA b off n cap base g i) → (ldAt 126 (.pointer (some ⟨vb, 0, none⟩))).run Try.prog w' = .ok (.agg (vwA b off n cap base g i)) w' := fun w' h => vw_all h
      have hlI : ∀ w', WnC w' b off n F → (ldAt 29 (.pointer (some ⟨b, off + i * 46 + 1, none⟩))).run Try.prog w' = .ok (.agg #[.int .i64 (F i).op, .int .i64 (F i).d, .int .i64 (F i).n, .int .i64 (F i).m, .int .i64 (F i).a, .int .i64 (F i).c, .int .i64 (F i).i]) w' := fun w' h => h.loadIns i hin
      refine wp_narrow ?_
      refine wp_region_held_drew (S := fun w' => rowAt w' vb = some (vwA b off n cap base g i) ∧ WnC w' b off n F) (by kernel_rfl) ⟨hv0, hw0⟩ (fun hHeld => ?_)
      generalize w3.drew = V at hv0 hw0 hL0 hO0 hHeld ⊢
      refine wpAnyH_take (i := 0) (oi := { dst := some 31, op := Go.Op.load 126 (Go.Operand.tmp 7), type := 126, pos := "may.go:17", after := #[], guard := none }) (v := ?_) rfl (by kernel_rfl) (by kernel_rfl) (by kernel_rfl) (fun _ _ _ h => h) (Or.inl ⟨by rfl, ?_⟩) (by assumption) ?_
      rotate_left
      · (intro w0 hSw; (try dsimp only at hSw); go_split_ands; go_simp; with_reducible rfl)
      try simp only [Act.put, List.setIfInBounds_toArray, List.set_cons_zero, List.set_cons_succ]
      refine wpAnyH_take (i := 1) (oi := { dst := some 32, op := Go.Op.move (Go.Operand.tmp 1), type := 3, pos := "may.go:17", after := #[], guard := none }) (v := ?_) rfl (by kernel_rfl) (by kernel_rfl) (by kernel_rfl) (fun _ _ _ h => h) (Or.inl ⟨by rfl, ?_⟩) (by assumption) ?_
      rotate_left
      · (intro w0 hSw; (try dsimp only at hSw); go_split_ands; go_simp; with_reducible rfl)
      try simp only [Act.put, List.setIfInBounds_toArray, List.set_cons_zero, List.set_cons_succ]
      refine wpAnyH_take (i := 2) (oi := { dst := some 33, op := Go.Op.move (Go.Operand.tmp 0), type := 22, pos := "may.go:17", after := #[], guard := none }) (v := ?_) rfl (by kernel_rfl) (by kernel_rfl) (by kernel_rfl) (fun _ _ _ h => h) (Or.inl ⟨by rfl, ?_⟩) (by assumption) ?_
      rotate_left
      · (intro w0 hSw; (try dsimp only at hSw); go_split_ands; go_simp; with_reducible rfl)
      try simp only [Act.put, List.setIfInBounds_toArray, List.set_cons_zero, List.set_cons_succ]
      refine wpAnyH_take (i := 3) (oi := { dst := some 34, op := Go.Op.move (Go.Operand.tmp 1), type := 3, pos := "may.go:17", after := #[], guard := none }) (v := ?_) rfl (by kernel_rfl) (by kernel_rfl) (by kernel_rfl) (fun _ _ _ h => h) (Or.inl ⟨by rfl, ?_⟩) (by assumption) ?_
      rotate_left
      · (intro w0 hSw; (try dsimp only at hSw); go_split_ands; go_simp; with_reducible rfl)
      try simp only [Act.put, List.setIfInBounds_toArray, List.set_cons_zero, List.set_cons_succ]
      refine wpAnyH_take (i := 4) (oi := { dst := some 35, op := Go.Op.indexAddr 22 (Go.Operand.tmp 33) (Go.Operand.tmp 34), type := 0, pos := "may.go:17", after := #[{ on := 2, ground := Go.Ground.data }, { on := 3, ground := Go.Ground.data }], guard := none }) (v := ?_) rfl (by kernel_rfl) (by kernel_rfl) (by kernel_rfl) (fun _ _ _ h => h) (Or.inl ⟨by rfl, ?_⟩) (by assumption) ?_
      rotate_left
      · (intro w0 hSw; (try dsimp only at hSw); go_split_ands; go_simp; with_reducible rfl)
      try simp only [Act.put, List.setIfInBounds_toArray, List.set_cons_zero, List.set_cons_succ]
      refine wpAnyH_take (i := 5) (oi := { dst := some 36, op := Go.Op.fieldAddr 31 (Go.Operand.tmp 35) 1, type := 0, pos := "may.go:17", after := #[{ on := 4, ground := Go.Ground.data }], guard := none }) (v := ?_) rfl (by kernel_rfl) (by kernel_rfl) (by kernel_rfl) (fun _ _ _ h => h) (Or.inl ⟨by rfl, ?_⟩) (by assumption) ?_
      rotate_left
      · (intro w0 hSw; (try dsimp only at hSw); go_split_ands; go_simp; with_reducible rfl)
      try simp only [Act.put, List.setIfInBounds_toArray, List.set_cons_zero, List.set_cons_succ]
      refine wpAnyH_take (i := 6) (oi := { dst := some 37, op := Go.Op.load 29 (Go.Operand.tmp 36), type := 29, pos := "may.go:17", after := #[{ on := 5, ground := Go.Ground.data }], guard := none }) (v := ?_) rfl (by kernel_rfl) (by kernel_rfl) (by kernel_rfl) (fun _ _ _ h => h) (Or.inl ⟨by rfl, ?_⟩) (by assumption) ?_
      rotate_left
      · (intro w0 hSw; (try dsimp only at hSw); go_split_ands; go_simp; with_reducible rfl)
      try simp only [Act.put, List.setIfInBounds_toArray, List.set_cons_zero, List.set_cons_succ]
      refine wpAnyH_ready (rs := [7, 12]) (by kernel_rfl) (by simp) ?_
      refine AllReadyH.cons (o := { dst := some 38, op := Go.Op.call { callee := Go.Callee.value (Go.Operand.func 71), args := #[Go.Operand.tmp 37], argTypes := #[29] }, type := 36, pos := "may.go:17", after := #[{ on := 6, ground := Go.Ground.data }], guard := none }) rfl (fun K hK => ?_) ?_
      · go_simp
        go_at_call 71
        refine (HIN.out _).mono ?_
        rintro e wi ⟨v, rfl, hRow, hnil, hb1⟩
        obtain ⟨a, cp, rfl, hcp, HC⟩ := rowp_parts hRow
        have hv1 := rowAt_below hv0 hb1 rfl
        have hw1 := hw0.below hb1
        have hL1 := below_step hL0 hb1 rfl rfl rfl rfl
        have hO1 := hO0.below hb1
        have hR1 : Below wi.heap.size wi wi := Below.refl _ _
        refine hK.out _ _ ⟨hv1, hw1⟩ (fun hHeld => ?_)
        clear hK K
        try simp only [Act.put, List.setIfInBounds_toArray, List.set_cons_zero, List.set_cons_succ]
        refine wpAnyH_ready (rs := [8, 12]) (by kernel_rfl) (by simp) ?_
        refine AllReadyH.cons (o := { dst := some 39, op := Go.Op.call { callee := Go.Callee.value (Go.Operand.func 70), args := #[Go.Operand.tmp 31, Go.Operand.tmp 32, Go.Operand.tmp 38], argTypes := #[126, 3, 36] }, type := 129, pos := "may.go:17", after := #[{ on := 0, ground := Go.Ground.data }, { on := 1, ground := Go.Ground.data }, { on := 7, ground := Go.Ground.data }, { on := 7, ground := Go.Ground.chain }], guard := none }) rfl (fun K hK => ?_) ?_
        · go_simp
          go_at_call 70
          refine (HINP.out _ _ hL1 hO1 (rowI_from hTl HC hR1)).mono ?_
          rintro e wp ⟨rfl, hb2⟩
          have hv2 := rowAt_below hv1 hb2 rfl
          have hw2 := hw1.below hb2
          have hL2 := below_step hL1 hb2 rfl rfl rfl rfl
          have hO2 := hO1.below hb2
          refine hK.out _ _ ⟨hv2, hw2⟩ (fun hHeld => ?_)
          clear hK K
          try simp only [Act.put, List.setIfInBounds_toArray, List.set_cons_zero, List.set_cons_succ]
          refine wpAnyH_take (i := 9) (oi := { dst := some 30, op := Go.Op.move (Go.Operand.tmp 39), type := 129, pos := "may.go:17", after := #[{ on := 8, ground := Go.Ground.data }], guard := none }) (v := ?_) rfl (by kernel_rfl) (by kernel_rfl) (by kernel_rfl) (fun _ _ _ h => h) (Or.inl ⟨by rfl, ?_⟩) (by assumption) ?_
          rotate_left
          · (intro w0 hSw; (try dsimp only at hSw); go_split_ands; go_simp; with_reducible rfl)
          try simp only [Act.put, List.setIfInBounds_toArray, List.set_cons_zero, List.set_cons_succ]
          refine wpAnyH_take (i := 10) (oi := { dst := some 40, op := Go.Op.extract (Go.Operand.tmp 30) 0, type := 26, pos := "may.go:17", after := #[{ on := 9, ground := Go.Ground.data }], guard := none }) (v := ?_) rfl (by kernel_rfl) (by kernel_rfl) (by kernel_rfl) (fun _ _ _ h => h) (Or.inl ⟨by rfl, ?_⟩) (by assumption) ?_
          rotate_left
          · (intro w0 hSw; (try dsimp only at hSw); go_split_ands; go_simp; with_reducible rfl)
          try simp only [Act.put, List.setIfInBounds_toArray, List.set_cons_zero, List.set_cons_succ]
          refine wpAnyH_take (i := 11) (oi := { dst := some 41, op := Go.Op.extract (Go.Operand.tmp 30) 1, type := 4, pos := "may.go:17", after := #[{ on := 9, ground := Go.Ground.data }, { on := 13, ground := Go.Ground.gcOnly Go.Departure.lateStores }], guard := none }) (v := ?_) rfl (by kernel_rfl) (by kernel_rfl) (by kernel_rfl) (fun _ _ _ h => h) (Or.inl ⟨by rfl, ?_⟩) (by assumption) ?_
          rotate_left
          · (intro w0 hSw; (try dsimp only at hSw); go_split_ands; go_simp; with_reducible rfl)
          try simp only [Act.put, List.setIfInBounds_toArray, List.set_cons_zero, List.set_cons_succ]
          refine wpAnyH_ready (rs := [12]) (by kernel_rfl) (by simp) ?_
          refine AllReadyH.cons (o := { dst := some 9, op := Go.Op.alloc 26, type := 0, pos := "may.go:17", after := #[], guard := none }) rfl (fun K hK => ?_) AllReadyH.nil
          go_simp
          have hz3 : rowAt (wp.alloc (.cells #[.int .u64 0, .int .u64 0, .int .u64 0, .int .u64 0, .int .u64 0, .int .u64 0, .int .u64 0, .int .u64 0, .int .u64 0, .int .u64 0, .int .u64 0, .int .u64 0, .int .u64 0, .int .u64 0, .int .u64 0, .int .u64 0, .int .u64 0, .int .u64 0, .int .u64 0, .int .u64 0, .int .u64 0, .int .u64 0, .int .u64 0, .int .u64 0, .int .u64 0, .int .u64 0, .int .u64 0, .int .u64 0, .int .u64 0, .int .u64 0, .int .u64 0, .int .u64 0, .bool false, .bool false, .bool false, .bool false] 26)) wp.heap.size = some #[.int .u64 0, .int .u64 0, .int .u64 0, .int .u64 0, .int .u64 0, .int .u64 0, .int .u64 0, .int .u64 0, .int .u64 0, .int .u64 0, .int .u64 0, .int .u64 0, .int .u64 0, .int .u64 0, .int .u64 0, .int .u64 0, .int .u64 0, .int .u64 0, .int .u64 0, .int .u64 0, .int .u64 0, .int .u64 0, .int .u64 0, .int .u64 0, .int .u64 0, .int .u64 0, .int .u64 0, .int .u64 0, .int .u64 0, .int .u64 0, .int .u64 0, .int .u64 0, .bool false, .bool false, .bool false, .bool false] := rowAt_new _ _ _
          have hA3 := (Below.refl wp.heap.size wp).alloc (Nat.le_refl _) (.cells #[.int .u64 0, .int .u64 0, .int .u64 0, .int .u64 0, .int .u64 0, .int .u64 0, .int .u64 0, .int .u64 0, .int .u64 0, .int .u64 0, .int .u64 0, .int .u64 0, .int .u64 0, .int .u64 0, .int .u64 0, .int .u64 0, .int .u64 0, .int .u64 0, .int .u64 0, .int .u64 0, .int .u64 0, .int .u64 0, .int .u64 0, .int .u64 0, .int .u64 0, .int .u64 0, .int .u64 0, .int .u64 0, .int .u64 0, .int .u64 0, .int .u64 0, .int .u64 0, .bool false, .bool false, .bool false, .bool false] 26)
          have hv3 := rowAt_past hv2 (.cells #[.int .u64 0, .int .u64 0, .int .u64 0, .int .u64 0, .int .u64 0, .int .u64 0, .int .u64 0, .int .u64 0, .int .u64 0, .int .u64 0, .int .u64 0, .int .u64 0, .int .u64 0, .int .u64 0, .int .u64 0, .int .u64 0, .int .u64 0, .int .u64 0, .int .u64 0, .int .u64 0, .int .u64 0, .int .u64 0, .int .u64 0, .int .u64 0, .int .u64 0, .int .u64 0, .int .u64 0, .int .u64 0, .int .u64 0, .int .u64 0, .int .u64 0, .int .u64 0, .bool false, .bool false, .bool false, .bool false] 26)
          have hw3 := hw2.below hA3
          have hL3 := hL2.alloc hL2.size (.cells #[.int .u64 0, .int .u64 0, .int .u64 0, .int .u64 0, .int .u64 0, .int .u64 0, .int .u64 0, .int .u64 0, .int .u64 0, .int .u64 0, .int .u64 0, .int .u64 0, .int .u64 0, .int .u64 0, .int .u64 0, .int .u64 0, .int .u64 0, .int .u64 0, .int .u64 0, .int .u64 0, .int .u64 0, .int .u64 0, .int .u64 0, .int .u64 0, .int .u64 0, .int .u64 0, .int .u64 0, .int .u64 0, .int .u64 0, .int .u64 0, .int .u64 0, .int .u64 0, .bool false, .bool false, .bool false, .bool false] 26)
          have hO3 := hO2.below hA3
          refine hK.out _ _ ⟨hv3, hw3⟩ (fun hHeld => ?_)
          clear hK K
          try simp only [Act.put, List.setIfInBounds_toArray, List.set_cons_zero, List.set_cons_succ]
          refine wpAnyH_ready (rs := [13]) (by kernel_rfl) (by simp) ?_
          refine AllReadyH.cons (o := { dst := none, op := Go.Op.store 26 (Go.Operand.tmp 9) (Go.Operand.tmp 40), type := 0, pos := "may.go:17", after := #[{ on := 12, ground := Go.Ground.data }, { on := 10, ground := Go.Ground.data }, { on := 8, ground := Go.Ground.chain }, { on := 0, ground := Go.Ground.phase }, { on := 1, ground := Go.Ground.phase }, { on := 2, ground := Go.Ground.phase }, { on := 3, ground := Go.Ground.phase }, { on := 4, ground := Go.Ground.phase }, { on := 5, ground := Go.Ground.phase }, { on := 6, ground := Go.Ground.phase }, { on := 7, ground := Go.Ground.phase }, { on := 8, ground := Go.Ground.phase }, { on := 9, ground := Go.Ground.phase }, { on := 10, ground := Go.Ground.phase }, { on := 11, ground := Go.Ground.textOnly Go.Departure.lateStores }, { on := 12, ground := Go.Ground.phase }], guard := none }) rfl (fun K hK => ?_) AllReadyH.nil
          have hs9 := st_all (r' := R0) hz3 (by rfl)
          go_simp
          have hg9 := setCells_grown R0.arr.toList 0 (wp.alloc (.cells #[.int .u64 0, .int .u64 0, .int .u64 0, .int .u64 0, .int .u64 0, .int .u64 0, .int .u64 0, .int .u64 0, .int .u64 0, .int .u64 0, .int .u64 0, .int .u64 0, .int .u64 0, .int .u64 0, .int .u64 0, .int .u64 0, .int .u64 0, .int .u64 0, .int .u64 0, .int .u64 0, .int .u64 0, .int .u64 0, .int .u64 0, .int .u64 0, .int .u64 0, .int .u64 0, .int .u64 0, .int .u64 0, .int .u64 0, .int .u64 0, .int .u64 0, .int .u64 0, .bool false, .bool false, .bool false, .bool false] 26)) (wp.heap.size)
          have hlv := rowAt_lt hv0
          have hlz := rowAt_lt hz3
          have hsz0 := hL0.size
          have hzg : V.heap.size ≤ wp.heap.size := by have e1 := hb1.size; have e2 := hb2.size; omega
          have hv9 := rowAt_grown hv3 hg9 (by omega)
          have hL9 := grown_below hL3 hg9 (by omega)
          have hw9 := HW.out.below hL9
          have hO9 := hO3.grown hg9 (by have := hO0.1; omega)
          clear hs9
          refine hK.out _ _ ⟨hv9, hw9⟩ (fun hHeld => ?_)
          clear hK K
          try simp only [Act.put, List.setIfInBounds_toArray, List.set_cons_zero, List.set_cons_succ]
          refine wpAnyH_take (i := 14) (oi := { dst := some 10, op := Go.Op.assign (Go.Operand.tmp 41), type := 4, pos := "may.go:17", after := #[{ on := 11, ground := Go.Ground.data }, { on := 13, ground := Go.Ground.chain }, { on := 0, ground := Go.Ground.phase }, { on := 1, ground := Go.Ground.phase }, { on := 2, ground := Go.Ground.phase }, { on := 3, ground := Go.Ground.phase }, { on := 4, ground := Go.Ground.phase }, { on := 5, ground := Go.Ground.phase }, { on := 6, ground := Go.Ground.phase }, { on := 7, ground := Go.Ground.phase }, { on := 8, ground := Go.Ground.phase }, { on := 9, ground := Go.Ground.phase }, { on := 10, ground := Go.Ground.phase }, { on := 11, ground := Go.Ground.phase }, { on := 12, ground := Go.Ground.phase }, { on := 13, ground := Go.Ground.phase }], guard := none }) (v := ?_) rfl (by kernel_rfl) (by kernel_rfl) (by kernel_rfl) (fun _ _ _ h => h) (Or.inl ⟨by rfl, ?_⟩) (by assumption) ?_
          rotate_left
          · (intro w0 hSw; (try dsimp only at hSw); go_split_ands; go_simp; with_reducible rfl)
          try simp only [Act.put, List.setIfInBounds_toArray, List.set_cons_zero, List.set_cons_succ]
          refine wpAnyH_done (by kernel_rfl) ?_ _
          clear hHeld
          go_wp2_with fail
          go_meet
          case rel => exact ⟨rfl, hv9, hw9, hO9, hL9⟩
        refine AllReadyH.cons (o := { dst := some 9, op := Go.Op.alloc 26, type := 0, pos := "may.go:17", after := #[], guard := none }) rfl (fun K hK => ?_) AllReadyH.nil
        go_simp
        have hz2 : rowAt (wi.alloc (.cells #[.int .u64 0, .int .u64 0, .int .u64 0, .int .u64 0, .int .u64 0, .int .u64 0, .int .u64 0, .int .u64 0, .int .u64 0, .int .u64 0, .int .u64 0, .int .u64 0, .int .u64 0, .int .u64 0, .int .u64 0, .int .u64 0, .int .u64 0, .int .u64 0, .int .u64 0, .int .u64 0, .int .u64 0, .int .u64 0, .int .u64 0, .int .u64 0, .int .u64 0, .int .u64 0, .int .u64 0, .int .u64 0, .int .u64 0, .int .u64 0, .int .u64 0, .int .u64 0, .bool false, .bool false, .bool false, .bool false] 26)) wi.heap.size = some #[.int .u64 0, .int .u64 0, .int .u64 0, .int .u64 0, .int .u64 0, .int .u64 0, .int .u64 0, .int .u64 0, .int .u64 0, .int .u64 0, .int .u64 0, .int .u64 0, .int .u64 0, .int .u64 0, .int .u64 0, .int .u64 0, .int .u64 0, .int .u64 0, .int .u64 0, .int .u64 0, .int .u64 0, .int .u64 0, .int .u64 0, .int .u64 0, .int .u64 0, .int .u64 0, .int .u64 0, .int .u64 0, .int .u64 0, .int .u64 0, .int .u64 0, .int .u64 0, .bool false, .bool false, .bool false, .bool false] := rowAt_new _ _ _
        have hA2 := (Below.refl wi.heap.size wi).alloc (Nat.le_refl _) (.cells #[.int .u64 0, .int .u64 0, .int .u64 0, .int .u64 0, .int .u64 0, .int .u64 0, .int .u64 0, .int .u64 0, .int .u64 0, .int .u64 0, .int .u64 0, .int .u64 0, .int .u64 0, .int .u64 0, .int .u64 0, .int .u64 0, .int .u64 0, .int .u64 0, .int .u64 0, .int .u64 0, .int .u64 0, .int .u64 0, .int .u64 0, .int .u64 0, .int .u64 0, .int .u64 0, .int .u64 0, .int .u64 0, .int .u64 0, .int .u64 0, .int .u64 0, .int .u64 0, .bool false, .bool false, .bool false, .bool false] 26)
        have hv2 := rowAt_past hv1 (.cells #[.int .u64 0, .int .u64 0, .int .u64 0, .int .u64 0, .int .u64 0, .int .u64 0, .int .u64 0, .int .u64 0, .int .u64 0, .int .u64 0, .int .u64 0, .int .u64 0, .int .u64 0, .int .u64 0, .int .u64 0, .int .u64 0, .int .u64 0, .int .u64 0, .int .u64 0, .int .u64 0, .int .u64 0, .int .u64 0, .int .u64 0, .int .u64 0, .int .u64 0, .int .u64 0, .int .u64 0, .int .u64 0, .int .u64 0, .int .u64 0, .int .u64 0, .int .u64 0, .bool false, .bool false, .bool false, .bool false] 26)
        have hw2 := hw1.below hA2
        have hL2 := hL1.alloc hL1.size (.cells #[.int .u64 0, .int .u64 0, .int .u64 0, .int .u64 0, .int .u64 0, .int .u64 0, .int .u64 0, .int .u64 0, .int .u64 0, .int .u64 0, .int .u64 0, .int .u64 0, .int .u64 0, .int .u64 0, .int .u64 0, .int .u64 0, .int .u64 0, .int .u64 0, .int .u64 0, .int .u64 0, .int .u64 0, .int .u64 0, .int .u64 0, .int .u64 0, .int .u64 0, .int .u64 0, .int .u64 0, .int .u64 0, .int .u64 0, .int .u64 0, .int .u64 0, .int .u64 0, .bool false, .bool false, .bool false, .bool false] 26)
        have hO2 := hO1.below hA2
        have hR2 := hR1.trans (hA2.mono hR1.size)
        refine hK.out _ _ ⟨hv2, hw2⟩ (fun hHeld => ?_)
        clear hK K
        try simp only [Act.put, List.setIfInBounds_toArray, List.set_cons_zero, List.set_cons_succ]
        refine wpAnyH_ready (rs := [8]) (by kernel_rfl) (by simp) ?_
        refine AllReadyH.cons (o := { dst := some 39, op := Go.Op.call { callee := Go.Callee.value (Go.Operand.func 70), args := #[Go.Operand.tmp 31, Go.Operand.tmp 32, Go.Operand.tmp 38], argTypes := #[126, 3, 36] }, type := 129, pos := "may.go:17", after := #[{ on := 0, ground := Go.Ground.data }, { on := 1, ground := Go.Ground.data }, { on := 7, ground := Go.Ground.data }, { on := 7, ground := Go.Ground.chain }], guard := none }) rfl (fun K hK => ?_) AllReadyH.nil
        go_simp
        go_at_call 70
        refine (HINP.out _ _ hL2 hO2 (rowI_from hTl HC hR2)).mono ?_
        rintro e wp ⟨rfl, hb3⟩
        have hv3 := rowAt_below hv2 hb3 rfl
        have hw3 := hw2.below hb3
        have hL3 := below_step hL2 hb3 rfl rfl rfl rfl
        have hO3 := hO2.below hb3
        have hz3 := rowAt_below hz2 hb3 rfl
        refine hK.out _ _ ⟨hv3, hw3⟩ (fun hHeld => ?_)
        clear hK K
        try simp only [Act.put, List.setIfInBounds_toArray, List.set_cons_zero, List.set_cons_succ]
        refine wpAnyH_take (i := 9) (oi := { dst := some 30, op := Go.Op.move (Go.Operand.tmp 39), type := 129, pos := "may.go:17", after := #[{ on := 8, ground := Go.Ground.data }], guard := none }) (v := ?_) rfl (by kernel_rfl) (by kernel_rfl) (by kernel_rfl) (fun _ _ _ h => h) (Or.inl ⟨by rfl, ?_⟩) (by assumption) ?_
        rotate_left
        · (intro w0 hSw; (try dsimp only at hSw); go_split_ands; go_simp; with_reducible rfl)
        try simp only [Act.put, List.setIfInBounds_toArray, List.set_cons_zero, List.set_cons_succ]
        refine wpAnyH_take (i := 10) (oi := { dst := some 40, op := Go.Op.extract (Go.Operand.tmp 30) 0, type := 26, pos := "may.go:17", after := #[{ on := 9, ground := Go.Ground.data }], guard := none }) (v := ?_) rfl (by kernel_rfl) (by kernel_rfl) (by kernel_rfl) (fun _ _ _ h => h) (Or.inl ⟨by rfl, ?_⟩) (by assumption) ?_
        rotate_left
        · (intro w0 hSw; (try dsimp only at hSw); go_split_ands; go_simp; with_reducible rfl)
        try simp only [Act.put, List.setIfInBounds_toArray, List.set_cons_zero, List.set_cons_succ]
        refine wpAnyH_take (i := 11) (oi := { dst := some 41, op := Go.Op.extract (Go.Operand.tmp 30) 1, type := 4, pos := "may.go:17", after := #[{ on := 9, ground := Go.Ground.data }, { on := 13, ground := Go.Ground.gcOnly Go.Departure.lateStores }], guard := none }) (v := ?_) rfl (by kernel_rfl) (by kernel_rfl) (by kernel_rfl) (fun _ _ _ h => h) (Or.inl ⟨by rfl, ?_⟩) (by assumption) ?_
        rotate_left
        · (intro w0 hSw; (try dsimp only at hSw); go_split_ands; go_simp; with_reducible rfl)
        try simp only [Act.put, List.setIfInBounds_toArray, List.set_cons_zero, List.set_cons_succ]
        refine wpAnyH_ready (rs := [13]) (by kernel_rfl) (by simp) ?_
        refine AllReadyH.cons (o := { dst := none, op := Go.Op.store 26 (Go.Operand.tmp 9) (Go.Operand.tmp 40), type := 0, pos := "may.go:17", after := #[{ on := 12, ground := Go.Ground.data }, { on := 10, ground := Go.Ground.data }, { on := 8, ground := Go.Ground.chain }, { on := 0, ground := Go.Ground.phase }, { on := 1, ground := Go.Ground.phase }, { on := 2, ground := Go.Ground.phase }, { on := 3, ground := Go.Ground.phase }, { on := 4, ground := Go.Ground.phase }, { on := 5, ground := Go.Ground.phase }, { on := 6, ground := Go.Ground.phase }, { on := 7, ground := Go.Ground.phase }, { on := 8, ground := Go.Ground.phase }, { on := 9, ground := Go.Ground.phase }, { on := 10, ground := Go.Ground.phase }, { on := 11, ground := Go.Ground.textOnly Go.Departure.lateStores }, { on := 12, ground := Go.Ground.phase }], guard := none }) rfl (fun K hK => ?_) AllReadyH.nil
        have hs9 := st_all (r' := R0) hz3 (by rfl)
        go_simp
        have hg9 := setCells_grown R0.arr.toList 0 wp (wi.heap.size)
        have hlv := rowAt_lt hv0
        have hlz := rowAt_lt hz3
        have hsz0 := hL0.size
        have hzg : V.heap.size ≤ wi.heap.size := by have e1 := hb1.size; omega
        have hv9 := rowAt_grown hv3 hg9 (by omega)
        have hL9 := grown_below hL3 hg9 (by omega)
        have hw9 := HW.out.below hL9
        have hO9 := hO3.grown hg9 (by have := hO0.1; omega)
        clear hs9
        refine hK.out _ _ ⟨hv9, hw9⟩ (fun hHeld => ?_)
        clear hK K
        try simp only [Act.put, List.setIfInBounds_toArray, List.set_cons_zero, List.set_cons_succ]
        refine wpAnyH_take (i := 14) (oi := { dst := some 10, op := Go.Op.assign (Go.Operand.tmp 41), type := 4, pos := "may.go:17", after := #[{ on := 11, ground := Go.Ground.data }, { on := 13, ground := Go.Ground.chain }, { on := 0, ground := Go.Ground.phase }, { on := 1, ground := Go.Ground.phase }, { on := 2, ground := Go.Ground.phase }, { on := 3, ground := Go.Ground.phase }, { on := 4, ground := Go.Ground.phase }, { on := 5, ground := Go.Ground.phase }, { on := 6, ground := Go.Ground.phase }, { on := 7, ground := Go.Ground.phase }, { on := 8, ground := Go.Ground.phase }, { on := 9, ground := Go.Ground.phase }, { on := 10, ground := Go.Ground.phase }, { on := 11, ground := Go.Ground.phase }, { on := 12, ground := Go.Ground.phase }, { on := 13, ground := Go.Ground.phase }], guard := none }) (v := ?_) rfl (by kernel_rfl) (by kernel_rfl) (by kernel_rfl) (fun _ _ _ h => h) (Or.inl ⟨by rfl, ?_⟩) (by assumption) ?_
        rotate_left
        · (intro w0 hSw; (try dsimp only at hSw); go_split_ands; go_simp; with_reducible rfl)
        try simp only [Act.put, List.setIfInBounds_toArray, List.set_cons_zero, List.set_cons_succ]
        refine wpAnyH_done (by kernel_rfl) ?_ _
        clear hHeld
        go_wp2_with fail
        go_meet
        case rel => exact ⟨rfl, hv9, hw9, hO9, hL9⟩
      refine AllReadyH.cons (o := { dst := some 9, op := Go.Op.alloc 26, type := 0, pos := "may.go:17", after := #[], guard := none }) rfl (fun K hK => ?_) AllReadyH.nil
      go_simp
      have hz1 : rowAt (V.alloc (.cells #[.int .u64 0, .int .u64 0, .int .u64 0, .int .u64 0, .int .u64 0, .int .u64 0, .int .u64 0, .int .u64 0, .int .u64 0, .int .u64 0, .int .u64 0, .int .u64 0, .int .u64 0, .int .u64 0, .int .u64 0, .int .u64 0, .int .u64 0, .int .u64 0, .int .u64 0, .int .u64 0, .int .u64 0, .int .u64 0, .int .u64 0, .int .u64 0, .int .u64 0, .int .u64 0, .int .u64 0, .int .u64 0, .int .u64 0, .int .u64 0, .int .u64 0, .int .u64 0, .bool false, .bool false, .bool false, .bool false] 26)) V.heap.size = some #[.int .u64 0, .int .u64 0, .int .u64 0, .int .u64 0, .int .u64 0, .int .u64 0, .int .u64 0, .int .u64 0, .int .u64 0, .int .u64 0, .int .u64 0, .int .u64 0, .int .u64 0, .int .u64 0, .int .u64 0, .int .u64 0, .int .u64 0, .int .u64 0, .int .u64 0, .int .u64 0, .int .u64 0, .int .u64 0, .int .u64 0, .int .u64 0, .int .u64 0, .int .u64 0, .int .u64 0, .int .u64 0, .int .u64 0, .int .u64 0, .int .u64 0, .int .u64 0, .bool false, .bool false, .bool false, .bool false] := rowAt_new _ _ _
      have hA1 := (Below.refl V.heap.size V).alloc (Nat.le_refl _) (.cells #[.int .u64 0, .int .u64 0, .int .u64 0, .int .u64 0, .int .u64 0, .int .u64 0, .int .u64 0, .int .u64 0, .int .u64 0, .int .u64 0, .int .u64 0, .int .u64 0, .int .u64 0, .int .u64 0, .int .u64 0, .int .u64 0, .int .u64 0, .int .u64 0, .int .u64 0, .int .u64 0, .int .u64 0, .int .u64 0, .int .u64 0, .int .u64 0, .int .u64 0, .int .u64 0, .int .u64 0, .int .u64 0, .int .u64 0, .int .u64 0, .int .u64 0, .int .u64 0, .bool false, .bool false, .bool false, .bool false] 26)
      have hv1 := rowAt_past hv0 (.cells #[.int .u64 0, .int .u64 0, .int .u64 0, .int .u64 0, .int .u64 0, .int .u64 0, .int .u64 0, .int .u64 0, .int .u64 0, .int .u64 0, .int .u64 0, .int .u64 0, .int .u64 0, .int .u64 0, .int .u64 0, .int .u64 0, .int .u64 0, .int .u64 0, .int .u64 0, .int .u64 0, .int .u64 0, .int .u64 0, .int .u64 0, .int .u64 0, .int .u64 0, .int .u64 0, .int .u64 0, .int .u64 0, .int .u64 0, .int .u64 0, .int .u64 0, .int .u64 0, .bool false, .bool false, .bool false, .bool false] 26)
      have hw1 := hw0.below hA1
      have hL1 := hL0.alloc hL0.size (.cells #[.int .u64 0, .int .u64 0, .int .u64 0, .int .u64 0, .int .u64 0, .int .u64 0, .int .u64 0, .int .u64 0, .int .u64 0, .int .u64 0, .int .u64 0, .int .u64 0, .int .u64 0, .int .u64 0, .int .u64 0, .int .u64 0, .int .u64 0, .int .u64 0, .int .u64 0, .int .u64 0, .int .u64 0, .int .u64 0, .int .u64 0, .int .u64 0, .int .u64 0, .int .u64 0, .int .u64 0, .int .u64 0, .int .u64 0, .int .u64 0, .int .u64 0, .int .u64 0, .bool false, .bool false, .bool false, .bool false] 26)
      have hO1 := hO0.below hA1
      refine hK.out _ _ ⟨hv1, hw1⟩ (fun hHeld => ?_)
      clear hK K
      try simp only [Act.put, List.setIfInBounds_toArray, List.set_cons_zero, List.set_cons_succ]
      refine wpAnyH_ready (rs := [7]) (by kernel_rfl) (by simp) ?_
      refine AllReadyH.cons (o := { dst := some 38, op := Go.Op.call { callee := Go.Callee.value (Go.Operand.func 71), args := #[Go.Operand.tmp 37], argTypes := #[29] }, type := 36, pos := "may.go:17", after := #[{ on := 6, ground := Go.Ground.data }], guard := none }) rfl (fun K hK => ?_) AllReadyH.nil
      go_simp
      go_at_call 71
      refine (HIN.out _).mono ?_
      rintro e wi ⟨v, rfl, hRow, hnil, hb2⟩
      obtain ⟨a, cp, rfl, hcp, HC⟩ := rowp_parts hRow
      have hv2 := rowAt_below hv1 hb2 rfl
      have hw2 := hw1.below hb2
      have hL2 := below_step hL1 hb2 rfl rfl rfl rfl
      have hO2 := hO1.below hb2
      have hR2 : Below wi.heap.size wi wi := Below.refl _ _
      have hz2 := rowAt_below hz1 hb2 rfl
      refine hK.out _ _ ⟨hv2, hw2⟩ (fun hHeld => ?_)
      clear hK K
      try simp only [Act.put, List.setIfInBounds_toArray, List.set_cons_zero, List.set_cons_succ]
      refine wpAnyH_ready (rs := [8]) (by kernel_rfl) (by simp) ?_
      refine AllReadyH.cons (o := { dst := some 39, op := Go.Op.call { callee := Go.Callee.value (Go.Operand.func 70), args := #[Go.Operand.tmp 31, Go.Operand.tmp 32, Go.Operand.tmp 38], argTypes := #[126, 3, 36] }, type := 129, pos := "may.go:17", after := #[{ on := 0, ground := Go.Ground.data }, { on := 1, ground := Go.Ground.data }, { on := 7, ground := Go.Ground.data }, { on := 7, ground := Go.Ground.chain }], guard := none }) rfl (fun K hK => ?_) AllReadyH.nil
      go_simp
      go_at_call 70
      refine (HINP.out _ _ hL2 hO2 (rowI_from hTl HC hR2)).mono ?_
      rintro e wp ⟨rfl, hb3⟩
      have hv3 := rowAt_below hv2 hb3 rfl
      have hw3 := hw2.below hb3
      have hL3 := below_step hL2 hb3 rfl rfl rfl rfl
      have hO3 := hO2.below hb3
      have hz3 := rowAt_below hz2 hb3 rfl
      refine hK.out _ _ ⟨hv3, hw3⟩ (fun hHeld => ?_)
      clear hK K
      try simp only [Act.put, List.setIfInBounds_toArray, List.set_cons_zero, List.set_cons_succ]
      refine wpAnyH_take (i := 9) (oi := { dst := some 30, op := Go.Op.move (Go.Operand.tmp 39), type := 129, pos := "may.go:17", after := #[{ on := 8, ground := Go.Ground.data }], guard := none }) (v := ?_) rfl (by kernel_rfl) (by kernel_rfl) (by kernel_rfl) (fun _ _ _ h => h) (Or.inl ⟨by rfl, ?_⟩) (by assumption) ?_
      rotate_left
      · (intro w0 hSw; (try dsimp only at hSw); go_split_ands; go_simp; with_reducible rfl)
      try simp only [Act.put, List.setIfInBounds_toArray, List.set_cons_zero, List.set_cons_succ]
      refine wpAnyH_take (i := 10) (oi := { dst := some 40, op := Go.Op.extract (Go.Operand.tmp 30) 0, type := 26, pos := "may.go:17", after := #[{ on := 9, ground := Go.Ground.data }], guard := none }) (v := ?_) rfl (by kernel_rfl) (by kernel_rfl) (by kernel_rfl) (fun _ _ _ h => h) (Or.inl ⟨by rfl, ?_⟩) (by assumption) ?_
      rotate_left
      · (intro w0 hSw; (try dsimp only at hSw); go_split_ands; go_simp; with_reducible rfl)
      try simp only [Act.put, List.setIfInBounds_toArray, List.set_cons_zero, List.set_cons_succ]
      refine wpAnyH_take (i := 11) (oi := { dst := some 41, op := Go.Op.extract (Go.Operand.tmp 30) 1, type := 4, pos := "may.go:17", after := #[{ on := 9, ground := Go.Ground.data }, { on := 13, ground := Go.Ground.gcOnly Go.Departure.lateStores }], guard := none }) (v := ?_) rfl (by kernel_rfl) (by kernel_rfl) (by kernel_rfl) (fun _ _ _ h => h) (Or.inl ⟨by rfl, ?_⟩) (by assumption) ?_
      rotate_left
      · (intro w0 hSw; (try dsimp only at hSw); go_split_ands; go_simp; with_reducible rfl)
      try simp only [Act.put, List.setIfInBounds_toArray, List.set_cons_zero, List.set_cons_succ]
      refine wpAnyH_ready (rs := [13]) (by kernel_rfl) (by simp) ?_
      refine AllReadyH.cons (o := { dst := none, op := Go.Op.store 26 (Go.Operand.tmp 9) (Go.Operand.tmp 40), type := 0, pos := "may.go:17", after := #[{ on := 12, ground := Go.Ground.data }, { on := 10, ground := Go.Ground.data }, { on := 8, ground := Go.Ground.chain }, { on := 0, ground := Go.Ground.phase }, { on := 1, ground := Go.Ground.phase }, { on := 2, ground := Go.Ground.phase }, { on := 3, ground := Go.Ground.phase }, { on := 4, ground := Go.Ground.phase }, { on := 5, ground := Go.Ground.phase }, { on := 6, ground := Go.Ground.phase }, { on := 7, ground := Go.Ground.phase }, { on := 8, ground := Go.Ground.phase }, { on := 9, ground := Go.Ground.phase }, { on := 10, ground := Go.Ground.phase }, { on := 11, ground := Go.Ground.textOnly Go.Departure.lateStores }, { on := 12, ground := Go.Ground.phase }], guard := none }) rfl (fun K hK => ?_) AllReadyH.nil
      have hs9 := st_all (r' := R0) hz3 (by rfl)
      go_simp
      have hg9 := setCells_grown R0.arr.toList 0 wp (V.heap.size)
      have hlv := rowAt_lt hv0
      have hlz := rowAt_lt hz3
      have hsz0 := hL0.size
      have hzg : V.heap.size ≤ V.heap.size := Nat.le_refl _
      have hv9 := rowAt_grown hv3 hg9 (by omega)
      have hL9 := grown_below hL3 hg9 (by omega)
      have hw9 := HW.out.below hL9
      have hO9 := hO3.grown hg9 (by have := hO0.1; omega)
      clear hs9
      refine hK.out _ _ ⟨hv9, hw9⟩ (fun hHeld => ?_)
      clear hK K
      try simp only [Act.put, List.setIfInBounds_toArray, List.set_cons_zero, List.set_cons_succ]
      refine wpAnyH_take (i := 14) (oi := { dst := some 10, op := Go.Op.assign (Go.Operand.tmp 41), type := 4, pos := "may.go:17", after := #[{ on := 11, ground := Go.Ground.data }, { on := 13, ground := Go.Ground.chain }, { on := 0, ground := Go.Ground.phase }, { on := 1, ground := Go.Ground.phase }, { on := 2, ground := Go.Ground.phase }, { on := 3, ground := Go.Ground.phase }, { on := 4, ground := Go.Ground.phase }, { on := 5, ground := Go.Ground.phase }, { on := 6, ground := Go.Ground.phase }, { on := 7, ground := Go.Ground.phase }, { on := 8, ground := Go.Ground.phase }, { on := 9, ground := Go.Ground.phase }, { on := 10, ground := Go.Ground.phase }, { on := 11, ground := Go.Ground.phase }, { on := 12, ground := Go.Ground.phase }, { on := 13, ground := Go.Ground.phase }], guard := none }) (v := ?_) rfl (by kernel_rfl) (by kernel_rfl) (by kernel_rfl) (fun _ _ _ h => h) (Or.inl ⟨by rfl, ?_⟩) (by assumption) ?_
      rotate_left
      · (intro w0 hSw; (try dsimp only at hSw); go_split_ands; go_simp; with_reducible rfl)
      try simp only [Act.put, List.setIfInBounds_toArray, List.set_cons_zero, List.set_cons_succ]
      refine wpAnyH_done (by kernel_rfl) ?_ _
      clear hHeld
      go_wp2_with fail
      go_meet
      case rel => exact ⟨rfl, hv9, hw9, hO9, hL9⟩
    case rest =>
      obtain ⟨rfl, hv, hw, hO, hL⟩ := hcut
      cases kb
      · have HM : Hid (mayS F base i = 9) := Lib.hid (by
          unfold mayS
          rw [if_neg (by rw [HD.out]; decide), if_pos (by rw [HT1.out]; exact HKB.out)])
        clear HINP HIN HKB HT1
        go_wp2
        refine ⟨.int .i64 9, ?_, by rw [HM.out], hL⟩
        simp [results, Try.f14, go_sem]
      · obtain ⟨tp, htp⟩ : ∃ tp, adS fOf F base i = tp := ⟨_, rfl⟩
        obtain ⟨fw, hfw⟩ : ∃ fw, (fwdS fOf F base i).isSome = fw := ⟨_, rfl⟩
        have HPL : Hid (∀ V, Below w.heap.size w V → OutC fOf F V g i → Calls Try.prog 72 #[.agg (vwA b off n cap base g i), .int .i64 i] V fun e w' => e = .returned (.agg (touchA tp fw)) ∧ Below V.heap.size V w') := Lib.hid (fun V h1 h2 => by
          rw [← htp, ← hfw]
          exact placeOf_c F base b off n cap g i i V (Lib.hid (HW.out.below h1)) (Lib.hid h2) hr hF (Nat.le_refl _) hin (by omega) hn)
        have HM : Hid (mayS F base i = if (und F i).any (fun x => waitB F base i x.toNat) = true then 9 else 0) := Lib.hid (by
          unfold mayS
          rw [if_neg (by rw [HD.out]; decide), if_neg (by rw [HT1.out, HKB.out]; decide)])
        have HWT : Hid (∀ j, waitB F base i j = (barB (F i).op (F j).op (F j).i || kindB (F i).op (F j).op (F i).i || placeB (F i).op (F j).op (adS fOf F base j) tp fw)) := Lib.hid (fun j => by rw [← htp, ← hfw]; rfl)
        have HTB : Hid (∀ t, tp = some t → 0 ≤ t ∧ t < 18446744073709551616) := Lib.hid (fun t ht => adS_bd F base hr i (fun k hk => hF k (by omega)) t (by rw [htp]; exact ht))
        clear HINP HIN HKB HT1 htp hfw
        go_upto_region 9 with (fail)
        go_cut [11] from 44 to 53 (fun s11 wx => ∃ tb, s11 = .pointer (some ⟨tb, 0, none⟩) ∧ rowAt wx tb = some (trA (vwA b off n cap base g i) (F i) tp fw) ∧ WnC wx b off n F ∧ OutC fOf F wx g i ∧ Below w.heap.size w wx ∧ w.heap.size ≤ tb)
        case first =>
          have hv0 : rowAt wc.drew vb = some (vwA b off n cap base g i) := hv
          have hL0 : Below w.heap.size w wc.drew := hL.drew
          have hw0 : WnC wc.drew b off n F := HW.out.below hL0
          have hO0 : OutC fOf F wc.drew g i := hO
          have hlV : ∀ w', rowAt w' vb = some (vwA b off n cap base g i) → (ldAt 126 (.pointer (some ⟨vb, 0, none⟩))).run Try.prog w' = .ok (.agg (vwA b off n cap base g i)) w' := fun w' h => vw_all h
          have hlI : ∀ w', WnC w' b off n F → (ldAt 29 (.pointer (some ⟨b, off + i * 46 + 1, none⟩))).run Try.prog w' = .ok (.agg (F i).ins) w' := fun w' h => h.loadIns i hin
          refine wp_narrow ?_
          refine wp_region_held_drew (S := fun w' => rowAt w' vb = some (vwA b off n cap base g i) ∧ WnC w' b off n F) (by kernel_rfl) ⟨hv0, hw0⟩ (fun hHeld => ?_)
          generalize wc.drew = V at hv0 hw0 hL0 hO0 hHeld ⊢
          refine wpAnyH_take (i := 0) (oi := { dst := some 44, op := Go.Op.load 126 (Go.Operand.tmp 7), type := 126, pos := "may.go:20", after := #[], guard := none }) (v := ?_) rfl (by kernel_rfl) (by kernel_rfl) (by kernel_rfl) (fun _ _ _ h => h) (Or.inl ⟨by rfl, ?_⟩) (by assumption) ?_
          rotate_left
          · (intro w0 hSw; (try dsimp only at hSw); go_split_ands; go_simp; with_reducible rfl)
          try simp only [Act.put, List.setIfInBounds_toArray, List.set_cons_zero, List.set_cons_succ]
          refine wpAnyH_take (i := 1) (oi := { dst := some 45, op := Go.Op.move (Go.Operand.tmp 0), type := 22, pos := "may.go:20", after := #[], guard := none }) (v := ?_) rfl (by kernel_rfl) (by kernel_rfl) (by kernel_rfl) (fun _ _ _ h => h) (Or.inl ⟨by rfl, ?_⟩) (by assumption) ?_
          rotate_left
          · (intro w0 hSw; (try dsimp only at hSw); go_split_ands; go_simp; with_reducible rfl)
          try simp only [Act.put, List.setIfInBounds_toArray, List.set_cons_zero, List.set_cons_succ]
          refine wpAnyH_take (i := 2) (oi := { dst := some 46, op := Go.Op.move (Go.Operand.tmp 1), type := 3, pos := "may.go:20", after := #[], guard := none }) (v := ?_) rfl (by kernel_rfl) (by kernel_rfl) (by kernel_rfl) (fun _ _ _ h => h) (Or.inl ⟨by rfl, ?_⟩) (by assumption) ?_
          rotate_left
          · (intro w0 hSw; (try dsimp only at hSw); go_split_ands; go_simp; with_reducible rfl)
          try simp only [Act.put, List.setIfInBounds_toArray, List.set_cons_zero, List.set_cons_succ]
          refine wpAnyH_take (i := 3) (oi := { dst := some 47, op := Go.Op.indexAddr 22 (Go.Operand.tmp 45) (Go.Operand.tmp 46), type := 0, pos := "may.go:20", after := #[{ on := 1, ground := Go.Ground.data }, { on := 2, ground := Go.Ground.data }], guard := none }) (v := ?_) rfl (by kernel_rfl) (by kernel_rfl) (by kernel_rfl) (fun _ _ _ h => h) (Or.inl ⟨by rfl, ?_⟩) (by assumption) ?_
          rotate_left
          · (intro w0 hSw; (try dsimp only at hSw); go_split_ands; go_simp; with_reducible rfl)
          try simp only [Act.put, List.setIfInBounds_toArray, List.set_cons_zero, List.set_cons_succ]
          refine wpAnyH_take (i := 4) (oi := { dst := some 48, op := Go.Op.fieldAddr 31 (Go.Operand.tmp 47) 1, type := 0, pos := "may.go:20", after := #[{ on := 3, ground := Go.Ground.data }], guard := none }) (v := ?_) rfl (by kernel_rfl) (by kernel_rfl) (by kernel_rfl) (fun _ _ _ h => h) (Or.inl ⟨by rfl, ?_⟩) (by assumption) ?_
          rotate_left
          · (intro w0 hSw; (try dsimp only at hSw); go_split_ands; go_simp; with_reducible rfl)
          try simp only [Act.put, List.setIfInBounds_toArray, List.set_cons_zero, List.set_cons_succ]
          refine wpAnyH_take (i := 5) (oi := { dst := some 49, op := Go.Op.load 29 (Go.Operand.tmp 48), type := 29, pos := "may.go:20", after := #[{ on := 4, ground := Go.Ground.data }], guard := none }) (v := ?_) rfl (by kernel_rfl) (by kernel_rfl) (by kernel_rfl) (fun _ _ _ h => h) (Or.inl ⟨by rfl, ?_⟩) (by assumption) ?_
          rotate_left
          · (intro w0 hSw; (try dsimp only at hSw); go_split_ands; go_simp; with_reducible rfl)
          try simp only [Act.put, List.setIfInBounds_toArray, List.set_cons_zero, List.set_cons_succ]
          refine wpAnyH_take (i := 6) (oi := { dst := some 50, op := Go.Op.load 126 (Go.Operand.tmp 7), type := 126, pos := "may.go:20", after := #[], guard := none }) (v := ?_) rfl (by kernel_rfl) (by kernel_rfl) (by kernel_rfl) (fun _ _ _ h => h) (Or.inl ⟨by rfl, ?_⟩) (by assumption) ?_
          rotate_left
          · (intro w0 hSw; (try dsimp only at hSw); go_split_ands; go_simp; with_reducible rfl)
          try simp only [Act.put, List.setIfInBounds_toArray, List.set_cons_zero, List.set_cons_succ]
          refine wpAnyH_take (i := 7) (oi := { dst := some 51, op := Go.Op.move (Go.Operand.tmp 1), type := 3, pos := "may.go:20", after := #[], guard := none }) (v := ?_) rfl (by kernel_rfl) (by kernel_rfl) (by kernel_rfl) (fun _ _ _ h => h) (Or.inl ⟨by rfl, ?_⟩) (by assumption) ?_
          rotate_left
          · (intro w0 hSw; (try dsimp only at hSw); go_split_ands; go_simp; with_reducible rfl)
          try simp only [Act.put, List.setIfInBounds_toArray, List.set_cons_zero, List.set_cons_succ]
          refine wpAnyH_ready (rs := [8, 10]) (by kernel_rfl) (by simp) ?_
          refine AllReadyH.cons (o := { dst := some 52, op := Go.Op.call { callee := Go.Callee.value (Go.Operand.func 72), args := #[Go.Operand.tmp 50, Go.Operand.tmp 51], argTypes := #[126, 3] }, type := 133, pos := "may.go:20", after := #[{ on := 6, ground := Go.Ground.data }, { on := 7, ground := Go.Ground.data }], guard := none }) rfl (fun K hK => ?_) ?_
          · go_simp
            go_at_call 72
            refine (HPL.out _ hL0 hO0).mono ?_
            rintro e w8 ⟨rfl, hb8⟩
            have hv1 := rowAt_below hv0 hb8 rfl
            have hw1 := hw0.below hb8
            have hL1 := below_step hL0 hb8 rfl rfl rfl rfl
            have hO1 := hO0.below hb8
            refine hK.out _ _ ⟨hv1, hw1⟩ (fun hHeld => ?_)
            clear hK K
            try simp only [Act.put, List.setIfInBounds_toArray, List.set_cons_zero, List.set_cons_succ]
            refine wpAnyH_take (i := 9) (oi := { dst := some 53, op := Go.Op.build 136 #[(0, Go.Operand.tmp 44), (1, Go.Operand.tmp 49), (2, Go.Operand.tmp 52)], type := 136, pos := "may.go:20", after := #[{ on := 0, ground := Go.Ground.data }, { on := 5, ground := Go.Ground.data }, { on := 8, ground := Go.Ground.data }], guard := none }) (v := ?_) rfl (by kernel_rfl) (by kernel_rfl) (by kernel_rfl) (fun _ _ _ h => h) (Or.inl ⟨by rfl, ?_⟩) (by assumption) ?_
            rotate_left
            · (intro w0 hSw; refine exec_build136 _ _ _ _ _ b off n cap g i base (F i) tp fw _ _ _ ?_ ?_ ?_ w0 <;> rfl)
            try simp only [Act.put, List.setIfInBounds_toArray, List.set_cons_zero, List.set_cons_succ]
            refine wpAnyH_ready (rs := [10]) (by kernel_rfl) (by simp) ?_
            refine AllReadyH.cons (o := { dst := some 11, op := Go.Op.alloc 136, type := 0, pos := "may.go:20", after := #[], guard := none }) rfl (fun K hK => ?_) AllReadyH.nil
            go_simp
            have hz2 := rowAt_new w8 #[.slice none 0 0, .int .u64 0, .int .u64 0, .int .u64 0, .int .u64 0, .int .u64 0, .int .u64 0, .int .u64 0, .int .u64 0, .int .u64 0, .int .u64 0, .int .u64 0, .int .u64 0, .int .u64 0, .int .u64 0, .int .u64 0, .int .u64 0, .int .u64 0, .int .u64 0, .int .u64 0, .int .u64 0, .int .u64 0, .int .u64 0, .int .u64 0, .int .u64 0, .int .u64 0, .int .u64 0, .int .u64 0, .int .u64 0, .int .u64 0, .int .u64 0, .int .u64 0, .int .u64 0, .bool false, .bool false, .bool false, .bool false, .slice none 0 0, .int .i64 0, .int .i64 0, .int .i64 0, .int .i64 0, .int .i64 0, .int .i64 0, .int .i64 0, .int .u64 0, .bool false, .bool false] 136
            have hA2 := (Below.refl w8.heap.size w8).alloc (Nat.le_refl _) (.cells #[.slice none 0 0, .int .u64 0, .int .u64 0, .int .u64 0, .int .u64 0, .int .u64 0, .int .u64 0, .int .u64 0, .int .u64 0, .int .u64 0, .int .u64 0, .int .u64 0, .int .u64 0, .int .u64 0, .int .u64 0, .int .u64 0, .int .u64 0, .int .u64 0, .int .u64 0, .int .u64 0, .int .u64 0, .int .u64 0, .int .u64 0, .int .u64 0, .int .u64 0, .int .u64 0, .int .u64 0, .int .u64 0, .int .u64 0, .int .u64 0, .int .u64 0, .int .u64 0, .int .u64 0, .bool false, .bool false, .bool false, .bool false, .slice none 0 0, .int .i64 0, .int .i64 0, .int .i64 0, .int .i64 0, .int .i64 0, .int .i64 0, .int .i64 0, .int .u64 0, .bool false, .bool false] 136)
            have hv2 := rowAt_past hv1 (.cells #[.slice none 0 0, .int .u64 0, .int .u64 0, .int .u64 0, .int .u64 0, .int .u64 0, .int .u64 0, .int .u64 0, .int .u64 0, .int .u64 0, .int .u64 0, .int .u64 0, .int .u64 0, .int .u64 0, .int .u64 0, .int .u64 0, .int .u64 0, .int .u64 0, .int .u64 0, .int .u64 0, .int .u64 0, .int .u64 0, .int .u64 0, .int .u64 0, .int .u64 0, .int .u64 0, .int .u64 0, .int .u64 0, .int .u64 0, .int .u64 0, .int .u64 0, .int .u64 0, .int .u64 0, .bool false, .bool false, .bool false, .bool false, .slice none 0 0, .int .i64 0, .int .i64 0, .int .i64 0, .int .i64 0, .int .i64 0, .int .i64 0, .int .i64 0, .int .u64 0, .bool false, .bool false] 136)
            have hw2 := hw1.below hA2
            have hL2 := hL1.alloc hL1.size (.cells #[.slice none 0 0, .int .u64 0, .int .u64 0, .int .u64 0, .int .u64 0, .int .u64 0, .int .u64 0, .int .u64 0, .int .u64 0, .int .u64 0, .int .u64 0, .int .u64 0, .int .u64 0, .int .u64 0, .int .u64 0, .int .u64 0, .int .u64 0, .int .u64 0, .int .u64 0, .int .u64 0, .int .u64 0, .int .u64 0, .int .u64 0, .int .u64 0, .int .u64 0, .int .u64 0, .int .u64 0, .int .u64 0, .int .u64 0, .int .u64 0, .int .u64 0, .int .u64 0, .int .u64 0, .bool false, .bool false, .bool false, .bool false, .slice none 0 0, .int .i64 0, .int .i64 0, .int .i64 0, .int .i64 0, .int .i64 0, .int .i64 0, .int .i64 0, .int .u64 0, .bool false, .bool false] 136)
            have hO2 := hO1.below hA2
            refine hK.out _ _ ⟨hv2, hw2⟩ (fun hHeld => ?_)
            clear hK K
            try simp only [Act.put, List.setIfInBounds_toArray, List.set_cons_zero, List.set_cons_succ]
            refine wpAnyH_ready (rs := [11]) (by kernel_rfl) (by simp) ?_
            refine AllReadyH.cons (o := { dst := none, op := Go.Op.store 136 (Go.Operand.tmp 11) (Go.Operand.tmp 53), type := 0, pos := "may.go:20", after := #[{ on := 10, ground := Go.Ground.data }, { on := 9, ground := Go.Ground.data }, { on := 8, ground := Go.Ground.chain }, { on := 0, ground := Go.Ground.phase }, { on := 1, ground := Go.Ground.phase }, { on := 2, ground := Go.Ground.phase }, { on := 3, ground := Go.Ground.phase }, { on := 4, ground := Go.Ground.phase }, { on := 5, ground := Go.Ground.phase }, { on := 6, ground := Go.Ground.phase }, { on := 7, ground := Go.Ground.phase }, { on := 8, ground := Go.Ground.phase }, { on := 9, ground := Go.Ground.phase }, { on := 10, ground := Go.Ground.phase }], guard := none }) rfl (fun K hK => ?_) AllReadyH.nil
            have hs9 := st_tr (b := b) (off := off) (n := n) (cap := cap) (g := g) (m := i) (r := base) (I := F i) (tp := tp) (fw := fw) hz2 (by rfl)
            generalize hTA : trA (vwA b off n cap base g i) (F i) tp fw = TA at hs9 ⊢
            go_simp
            have hR9 := setCells_all (D := TA) hz2 (by rw [← hTA, trA_size (vwA_size _ _ _ _ _ _ _)]; rfl)
            have hg9 := setCells_grown TA.toList 0 (w8.alloc (.cells #[.slice none 0 0, .int .u64 0, .int .u64 0, .int .u64 0, .int .u64 0, .int .u64 0, .int .u64 0, .int .u64 0, .int .u64 0, .int .u64 0, .int .u64 0, .int .u64 0, .int .u64 0, .int .u64 0, .int .u64 0, .int .u64 0, .int .u64 0, .int .u64 0, .int .u64 0, .int .u64 0, .int .u64 0, .int .u64 0, .int .u64 0, .int .u64 0, .int .u64 0, .int .u64 0, .int .u64 0, .int .u64 0, .int .u64 0, .int .u64 0, .int .u64 0, .int .u64 0, .int .u64 0, .bool false, .bool false, .bool false, .bool false, .slice none 0 0, .int .i64 0, .int .i64 0, .int .i64 0, .int .i64 0, .int .i64 0, .int .i64 0, .int .i64 0, .int .u64 0, .bool false, .bool false] 136)) (w8.heap.size)
            have hlv := rowAt_lt hv0
            have hsz0 := hL0.size
            have hvs : V.heap.size ≤ w8.heap.size := hb8.size
            have hv9 := rowAt_grown hv2 hg9 (by omega)
            have hL9 := grown_below hL2 hg9 (by omega)
            have hw9 := HW.out.below hL9
            have hO9 := hO2.grown hg9 (by have := hO0.1; omega)
            clear hs9
            refine hK.out _ _ ⟨hv9, hw9⟩ (fun hHeld => ?_)
            clear hK K
            try simp only [Act.put, List.setIfInBounds_toArray, List.set_cons_zero, List.set_cons_succ]
            subst hTA
            refine wpAnyH_done (by kernel_rfl) ?_ _
            clear hHeld
            go_wp2_with fail
            go_meet
            case rel => exact ⟨w8.heap.size, rfl, hR9, hw9, hO9, hL9, by omega⟩
          refine AllReadyH.cons (o := { dst := some 11, op := Go.Op.alloc 136, type := 0, pos := "may.go:20", after := #[], guard := none }) rfl (fun K hK => ?_) AllReadyH.nil
          go_simp
          have hz1 := rowAt_new V #[.slice none 0 0, .int .u64 0, .int .u64 0, .int .u64 0, .int .u64 0, .int .u64 0, .int .u64 0, .int .u64 0, .int .u64 0, .int .u64 0, .int .u64 0, .int .u64 0, .int .u64 0, .int .u64 0, .int .u64 0, .int .u64 0, .int .u64 0, .int .u64 0, .int .u64 0, .int .u64 0, .int .u64 0, .int .u64 0, .int .u64 0, .int .u64 0, .int .u64 0, .int .u64 0, .int .u64 0, .int .u64 0, .int .u64 0, .int .u64 0, .int .u64 0, .int .u64 0, .int .u64 0, .bool false, .bool false, .bool false, .bool false, .slice none 0 0, .int .i64 0, .int .i64 0, .int .i64 0, .int .i64 0, .int .i64 0, .int .i64 0, .int .i64 0, .int .u64 0, .bool false, .bool false] 136
          have hA1 := (Below.refl V.heap.size V).alloc (Nat.le_refl _) (.cells #[.slice none 0 0, .int .u64 0, .int .u64 0, .int .u64 0, .int .u64 0, .int .u64 0, .int .u64 0, .int .u64 0, .int .u64 0, .int .u64 0, .int .u64 0, .int .u64 0, .int .u64 0, .int .u64 0, .int .u64 0, .int .u64 0, .int .u64 0, .int .u64 0, .int .u64 0, .int .u64 0, .int .u64 0, .int .u64 0, .int .u64 0, .int .u64 0, .int .u64 0, .int .u64 0, .int .u64 0, .int .u64 0, .int .u64 0, .int .u64 0, .int .u64 0, .int .u64 0, .int .u64 0, .bool false, .bool false, .bool false, .bool false, .slice none 0 0, .int .i64 0, .int .i64 0, .int .i64 0, .int .i64 0, .int .i64 0, .int .i64 0, .int .i64 0, .int .u64 0, .bool false, .bool false] 136)
          have hv1 := rowAt_past hv0 (.cells #[.slice none 0 0, .int .u64 0, .int .u64 0, .int .u64 0, .int .u64 0, .int .u64 0, .int .u64 0, .int .u64 0, .int .u64 0, .int .u64 0, .int .u64 0, .int .u64 0, .int .u64 0, .int .u64 0, .int .u64 0, .int .u64 0, .int .u64 0, .int .u64 0, .int .u64 0, .int .u64 0, .int .u64 0, .int .u64 0, .int .u64 0, .int .u64 0, .int .u64 0, .int .u64 0, .int .u64 0, .int .u64 0, .int .u64 0, .int .u64 0, .int .u64 0, .int .u64 0, .int .u64 0, .bool false, .bool false, .bool false, .bool false, .slice none 0 0, .int .i64 0, .int .i64 0, .int .i64 0, .int .i64 0, .int .i64 0, .int .i64 0, .int .i64 0, .int .u64 0, .bool false, .bool false] 136)
          have hw1 := hw0.below hA1
          have hL1 := hL0.alloc hL0.size (.cells #[.slice none 0 0, .int .u64 0, .int .u64 0, .int .u64 0, .int .u64 0, .int .u64 0, .int .u64 0, .int .u64 0, .int .u64 0, .int .u64 0, .int .u64 0, .int .u64 0, .int .u64 0, .int .u64 0, .int .u64 0, .int .u64 0, .int .u64 0, .int .u64 0, .int .u64 0, .int .u64 0, .int .u64 0, .int .u64 0, .int .u64 0, .int .u64 0, .int .u64 0, .int .u64 0, .int .u64 0, .int .u64 0, .int .u64 0, .int .u64 0, .int .u64 0, .int .u64 0, .int .u64 0, .bool false, .bool false, .bool false, .bool false, .slice none 0 0, .int .i64 0, .int .i64 0, .int .i64 0, .int .i64 0, .int .i64 0, .int .i64 0, .int .i64 0, .int .u64 0, .bool false, .bool false] 136)
          have hO1 := hO0.below hA1
          refine hK.out _ _ ⟨hv1, hw1⟩ (fun hHeld => ?_)
          clear hK K
          try simp only [Act.put, List.setIfInBounds_toArray, List.set_cons_zero, List.set_cons_succ]
          refine wpAnyH_ready (rs := [8]) (by kernel_rfl) (by simp) ?_
          refine AllReadyH.cons (o := { dst := some 52, op := Go.Op.call { callee := Go.Callee.value (Go.Operand.func 72), args := #[Go.Operand.tmp 50, Go.Operand.tmp 51], argTypes := #[126, 3] }, type := 133, pos := "may.go:20", after := #[{ on := 6, ground := Go.Ground.data }, { on := 7, ground := Go.Ground.data }], guard := none }) rfl (fun K hK => ?_) AllReadyH.nil
          go_simp
          go_at_call 72
          refine (HPL.out _ hL1 hO1).mono ?_
          rintro e w8 ⟨rfl, hb8⟩
          have hv2 := rowAt_below hv1 hb8 rfl
          have hw2 := hw1.below hb8
          have hL2 := below_step hL1 hb8 rfl rfl rfl rfl
          have hO2 := hO1.below hb8
          have hz2 := rowAt_below hz1 hb8 (by simp)
          refine hK.out _ _ ⟨hv2, hw2⟩ (fun hHeld => ?_)
          clear hK K
          try simp only [Act.put, List.setIfInBounds_toArray, List.set_cons_zero, List.set_cons_succ]
          refine wpAnyH_take (i := 9) (oi := { dst := some 53, op := Go.Op.build 136 #[(0, Go.Operand.tmp 44), (1, Go.Operand.tmp 49), (2, Go.Operand.tmp 52)], type := 136, pos := "may.go:20", after := #[{ on := 0, ground := Go.Ground.data }, { on := 5, ground := Go.Ground.data }, { on := 8, ground := Go.Ground.data }], guard := none }) (v := ?_) rfl (by kernel_rfl) (by kernel_rfl) (by kernel_rfl) (fun _ _ _ h => h) (Or.inl ⟨by rfl, ?_⟩) (by assumption) ?_
          rotate_left
          · (intro w0 hSw; refine exec_build136 _ _ _ _ _ b off n cap g i base (F i) tp fw _ _ _ ?_ ?_ ?_ w0 <;> rfl)
          try simp only [Act.put, List.setIfInBounds_toArray, List.set_cons_zero, List.set_cons_succ]
          refine wpAnyH_ready (rs := [11]) (by kernel_rfl) (by simp) ?_
          refine AllReadyH.cons (o := { dst := none, op := Go.Op.store 136 (Go.Operand.tmp 11) (Go.Operand.tmp 53), type := 0, pos := "may.go:20", after := #[{ on := 10, ground := Go.Ground.data }, { on := 9, ground := Go.Ground.data }, { on := 8, ground := Go.Ground.chain }, { on := 0, ground := Go.Ground.phase }, { on := 1, ground := Go.Ground.phase }, { on := 2, ground := Go.Ground.phase }, { on := 3, ground := Go.Ground.phase }, { on := 4, ground := Go.Ground.phase }, { on := 5, ground := Go.Ground.phase }, { on := 6, ground := Go.Ground.phase }, { on := 7, ground := Go.Ground.phase }, { on := 8, ground := Go.Ground.phase }, { on := 9, ground := Go.Ground.phase }, { on := 10, ground := Go.Ground.phase }], guard := none }) rfl (fun K hK => ?_) AllReadyH.nil
          have hs9 := st_tr (b := b) (off := off) (n := n) (cap := cap) (g := g) (m := i) (r := base) (I := F i) (tp := tp) (fw := fw) hz2 (by rfl)
          generalize hTA : trA (vwA b off n cap base g i) (F i) tp fw = TA at hs9 ⊢
          go_simp
          have hR9 := setCells_all (D := TA) hz2 (by rw [← hTA, trA_size (vwA_size _ _ _ _ _ _ _)]; rfl)
          have hg9 := setCells_grown TA.toList 0 w8 (V.heap.size)
          have hlv := rowAt_lt hv0
          have hsz0 := hL0.size
          have hvs : V.heap.size ≤ V.heap.size := Nat.le_refl _
          have hv9 := rowAt_grown hv2 hg9 (by omega)
          have hL9 := grown_below hL2 hg9 (by omega)
          have hw9 := HW.out.below hL9
          have hO9 := hO2.grown hg9 (by have := hO0.1; omega)
          clear hs9
          refine hK.out _ _ ⟨hv9, hw9⟩ (fun hHeld => ?_)
          clear hK K
          try simp only [Act.put, List.setIfInBounds_toArray, List.set_cons_zero, List.set_cons_succ]
          subst hTA
          refine wpAnyH_done (by kernel_rfl) ?_ _
          clear hHeld
          go_wp2_with fail
          go_meet
          case rel => exact ⟨V.heap.size, rfl, hR9, hw9, hO9, hL9, by omega⟩
        case rest =>
          clear hv hw hO hL
          obtain ⟨tb, rfl, ht, hw, hO, hL, htb⟩ := hcut
          have HTR := Lib.hid ht
          have HW1 := Lib.hid hw
          have HO1 := Lib.hid hO
          have HL1 := Lib.hid hL
          clear ht hw hO hL
          have gi : (i : Int) ≤ n := by omega
          have gc : (i : Int) ≤ cap := by omega
          have hsc := HL1.out.size
          have HE0 : Hid (Boxed (wc.alloc (.cells #[.int .i64 0] 32)) wc.heap.size 32 (.int .i64 0)) := Lib.hid (Boxed.new wc 32 (.int .i64 0))
          have HT2 := Lib.hid (rowAt_past HTR.out (.cells #[.int .i64 0] 32))
          have hba := Lib.hid ((Below.refl wc.heap.size wc).alloc (Nat.le_refl _) (.cells #[.int .i64 0] 32))
          have HW2 := Lib.hid (HW1.out.below hba.out)
          have HO2 := Lib.hid (HO1.out.below hba.out)
          have HL2 := Lib.hid (HL1.out.alloc HL1.out.size (.cells #[.int .i64 0] 32))
          have hs2 : (wc.alloc (.cells #[.int .i64 0] 32)).heap.size = wc.heap.size + 1 := by simp
          have htl := rowAt_lt HTR.out
          have HN := Lib.hid (And.intro hs2 (And.intro htl hsc))
          clear hs2 htl hsc hba HW1 HO1 HL1 HTR
          obtain ⟨eb, heb⟩ : ∃ eb, wc.heap.size = eb := ⟨_, rfl⟩
          go_upto_region 11 with (fail)
          go_wp2_with fail
          try rw [heb] at HE0
          try rw [heb] at HN
          try rw [heb]
          clear heb
          obtain ⟨W1, hW1⟩ : ∃ W1, wc.alloc (.cells #[.int .i64 0] 32) = W1 := ⟨_, rfl⟩
          try rw [hW1] at HE0
          try rw [hW1] at HN
          try rw [hW1] at HT2
          try rw [hW1] at HW2
          try rw [hW1] at HO2
          try rw [hW1] at HL2
          try rw [hW1] at ⊢
          clear hW1
          refine wp_label ?_
          go_wp2_with (first | (go_at_call 73; refine (undone_c _ _ rfl).mono ?_; rintro e W2 ⟨rfl, hu2, hb2⟩; have HU2 := Lib.hid hu2; have HB2 := Lib.hid hb2; clear hu2 hb2))
          have hne := HN.out
          have hW2s := HB2.out.size
          have hHE2 : Boxed W2 eb 32 (.int .i64 0) := (HB2.out.block eb (by omega)).trans HE0.out
          have HE2 := Lib.hid hHE2
          have HT3 := Lib.hid (rowAt_below HT2.out HB2.out rfl)
          have HW3 := Lib.hid (HW2.out.below HB2.out)
          have HO3 := Lib.hid (HO2.out.below HB2.out)
          have HL3 := Lib.hid (below_step HL2.out HB2.out rfl rfl rfl rfl)
          obtain ⟨ub, hub⟩ : ∃ ub, W1.heap.size = ub := ⟨_, rfl⟩
          try rw [hub] at HU2
          try rw [hub] at HB2
          try rw [hub]
          have hul := HU2.out.lt
          have HN2 : Hid (ub < W2.heap.size ∧ eb < ub ∧ tb < eb ∧ w.heap.size ≤ eb ∧ b < W2.heap.size) := Lib.hid ⟨hul, by omega, by omega, by omega, HW3.out.1⟩
          have hWi : WnC W2 b off i F := ⟨HW3.out.1, fun j hj => HW3.out.2 j (by omega)⟩
          have hWI := Lib.hid hWi
          clear hne hW2s hHE2 hul hub HE0 HT2 HW2 HO2 HL2 HB2 HN hWi
          obtain ⟨TA, hTA⟩ : ∃ TA, trA (vwA b off n cap base g i) (F i) tp fw = TA := ⟨_, rfl⟩
          rw [hTA] at HT3
          have HTA := Lib.hid hTA
          clear hTA
          refine (wpIn_wide (n := 5)).1 ?_
          refine range_may (q := 13) (by decide) (gf := 153) (lb := #[.pointer (some ⟨ub, 0, none⟩)]) (enc := fun x : Fin i => .int .i64 (x.val : Int)) (w0 := W2) rfl (fun args w => rfl) (undone_fin F b off i cap ub W2 hWI.out HU2.out (by omega)) (fun h k => ⟨Fr.kpI_t h.1 k.1, Fr.kpI_t h.2 k.2⟩) (fun W l o o' hl h h1 h2 => ⟨Fr.kpI_b HN2.out.1 W l o o' hl h h1 h2, Fr.kpI_b HN2.out.2.2.2.2 W l o o' hl h h1 h2⟩) (Below.refl _ _)
            (fun pre W => (∀ x ∈ pre, waitB F base i x.val = false) ∧ Below W2.heap.size W2 W)
            (fun c pre W => (c = .exit 0 ∧ ∃ p x, pre = p ++ [x] ∧ waitB F base i x.val = true) ∧ Boxed W eb 32 (.int .i64 9) ∧ Below w.heap.size w W)
            (OwnFrom.and (ownFrom_pure _ _) (ownFrom_below (Nat.le_refl _) (Nat.le_refl _)))
            (fun c => OwnFrom.and (ownFrom_pure _ _) (OwnFrom.and (Own.from (fun s X Y row hs hg hr => boxed_own eb 32 (fun _ : List (Fin i) => .int .i64 9) s X Y row hs hg hr) _) (ownFrom_below (Nat.le_refl _) (by have := HN2.out; omega))))
            ⟨by simp, Below.refl _ _⟩ ?assign ?body ?done ?stop
          case assign =>
            intro l x W K hK
            simp only [List.setIfInBounds_toArray, List.set_cons_succ, List.set_cons_zero] at hK ⊢
            gi_wp2
            exact hK
          case body =>
            rintro l pre x W ⟨hno, hB⟩ hlt
            simp only [List.setIfInBounds_toArray, List.set_cons_succ, List.set_cons_zero]
            have hxi := x.isLt
            obtain ⟨c0, hc0⟩ : ∃ c0, barB (F i).op (F x.val).op (F x.val).i = c0 := ⟨_, rfl⟩
            obtain ⟨c1, hc1⟩ : ∃ c1, kindB (F i).op (F x.val).op (F i).i = c1 := ⟨_, rfl⟩
            obtain ⟨c2, hc2⟩ : ∃ c2, placeB (F i).op (F x.val).op (adS fOf F base x.val) tp fw = c2 := ⟨_, rfl⟩
            have HX : Hid (waitB F base i x.val = (c0 || c1 || c2)) := Lib.hid (by rw [HWT.out, hc0, hc1, hc2])
            have HC0 : Hid (∀ V, Below W2.heap.size W2 V → Calls Try.prog 74 #[.agg TA, .int .i64 (x.val : Int)] V fun e w' => e = .returned (.bool c0) ∧ Below V.heap.size V w') := Lib.hid (fun V h => by
              rw [← hc0, ← HTA.out]
              exact barrier_c F (F i) base b off n cap g i x.val tp fw V (Lib.hid (HW3.out.below h)) (by omega) hn)
            have HC1 : Hid (∀ V, Below W2.heap.size W2 V → Calls Try.prog 75 #[.agg TA, .int .i64 (x.val : Int)] V fun e w' => e = .returned (.bool c1) ∧ Below V.heap.size V w') := Lib.hid (fun V h => by
              rw [← hc1, ← HTA.out]
              exact kind_c F (F i) base b off n cap g i x.val tp fw V (Lib.hid (HW3.out.below h)) (by omega) hn)
            have HC2 : Hid (∀ V, Below W2.heap.size W2 V → Calls Try.prog 76 #[.agg TA, .int .i64 (x.val : Int)] V fun e w' => e = .returned (.bool c2) ∧ Below V.heap.size V w') := Lib.hid (fun V h => by
              rw [← hc2, ← HTA.out]
              exact place_c F (F i) base b off n cap g i x.val tp fw V (Lib.hid (HW3.out.below h)) (Lib.hid (HO3.out.below h)) hr hF HTB.out (by omega) (by omega) (by omega) hn)
            clear hc0 hc1 hc2
            have HB0 := Lib.hid hB
            have HNO := Lib.hid hno
            have hlT : Hid (∀ V, Below W2.heap.size W2 V → (ldAt 136 (.pointer (some ⟨tb, 0, none⟩))).run Try.prog V = .ok (.agg TA) V) := Lib.hid (fun V h => by
              have := rowAt_below HT3.out h rfl
              rw [← HTA.out] at this ⊢
              exact tr_all this)
            have hl0 := hlT.out W hB
            clear hB hno
            have hbd := built142
            have hx0 := idx142_0
            have hx1 := idx142_1
            have hx2 := idx142_2
            gi_wp2_with (fail)
            refine wpIn_loop_rounds 4 ?_
            rw [roundsIn_succ]
            gi_wp2_with (fail)
            refine ⟨trivial, ?_⟩
            refine (callsIn_wide.2 (HC0.out _ HB0.out)).mono ?_
            rintro e V1 ⟨rfl, hb1⟩
            have HB1 := Lib.hid (below_step HB0.out hb1 rfl rfl rfl rfl)
            have hq1 := hb1
            have HQ1 := Lib.hid hq1
            clear hb1 hq1
            rcases c0 with _ | _
            rotate_left
            · have hHE : Boxed V1 eb 32 (.int .i64 0) := (HB1.out.block eb (by have := HN2.out; omega)).trans HE2.out
              have cE := hHE.cell
              have fE := hHE.frozen
              have hp : ∃ p y, pre ++ [x] = p ++ [y] ∧ waitB F base i y.val = true := ⟨pre, x, rfl, by rw [HX.out]; simp⟩
              have HP := Lib.hid hp
              have hS := Lib.hid (hHE.set (.int .i64 9))
              have hk := Lib.hid ((keepsFrom_below (B := W2.heap.size) HQ1.out).trans ((KeepsOthers.setCell V1 ⟨eb, 0, none⟩ (.int .i64 9)).from _))
              have hl := Lib.hid (((HL3.out.trans (HB1.out.mono HL3.out.size)).setCell (p := ⟨eb, 0, none⟩) HN2.out.2.2.2.1 (.int .i64 9)))
              clear hHE hp
              gi_wp2
              exact ⟨hk.out, ⟨rfl, HP.out⟩, hS.out, hl.out⟩
            have hl1 := hlT.out _ HB1.out
            clear hl0
            gi_wp2_with (fail)
            rw [roundsIn_succ]
            gi_wp2_with (fail)
            refine ⟨trivial, ?_⟩
            refine (callsIn_wide.2 (HC1.out _ HB1.out)).mono ?_
            rintro e V2 ⟨rfl, hb2⟩
            have HB2 := Lib.hid (below_step HB1.out hb2 rfl rfl rfl rfl)
            have hq2 := HQ1.out.trans (hb2.mono HQ1.out.size)
            have HQ2 := Lib.hid hq2
            clear hb2 hq2
            rcases c1 with _ | _
            rotate_left
            · have hHE : Boxed V2 eb 32 (.int .i64 0) := (HB2.out.block eb (by have := HN2.out; omega)).trans HE2.out
              have cE := hHE.cell
              have fE := hHE.frozen
              have hp : ∃ p y, pre ++ [x] = p ++ [y] ∧ waitB F base i y.val = true := ⟨pre, x, rfl, by rw [HX.out]; simp⟩
              have HP := Lib.hid hp
              have hS := Lib.hid (hHE.set (.int .i64 9))
              have hk := Lib.hid ((keepsFrom_below (B := W2.heap.size) HQ2.out).trans ((KeepsOthers.setCell V2 ⟨eb, 0, none⟩ (.int .i64 9)).from _))
              have hl := Lib.hid (((HL3.out.trans (HB2.out.mono HL3.out.size)).setCell (p := ⟨eb, 0, none⟩) HN2.out.2.2.2.1 (.int .i64 9)))
              clear hHE hp
              gi_wp2
              exact ⟨hk.out, ⟨rfl, HP.out⟩, hS.out, hl.out⟩
            have hl2 := hlT.out _ HB2.out
            clear hl1
            gi_wp2_with (fail)
            rw [roundsIn_succ]
            gi_wp2_with (fail)
            refine ⟨trivial, ?_⟩
            refine (callsIn_wide.2 (HC2.out _ HB2.out)).mono ?_
            rintro e V3 ⟨rfl, hb3⟩
            have HB3 := Lib.hid (below_step HB2.out hb3 rfl rfl rfl rfl)
            have hq3 := HQ2.out.trans (hb3.mono HQ2.out.size)
            have HQ3 := Lib.hid hq3
            clear hb3 hq3
            rcases c2 with _ | _
            rotate_left
            · have hHE : Boxed V3 eb 32 (.int .i64 0) := (HB3.out.block eb (by have := HN2.out; omega)).trans HE2.out
              have cE := hHE.cell
              have fE := hHE.frozen
              have hp : ∃ p y, pre ++ [x] = p ++ [y] ∧ waitB F base i y.val = true := ⟨pre, x, rfl, by rw [HX.out]; simp⟩
              have HP := Lib.hid hp
              have hS := Lib.hid (hHE.set (.int .i64 9))
              have hk := Lib.hid ((keepsFrom_below (B := W2.heap.size) HQ3.out).trans ((KeepsOthers.setCell V3 ⟨eb, 0, none⟩ (.int .i64 9)).from _))
              have hl := Lib.hid (((HL3.out.trans (HB3.out.mono HL3.out.size)).setCell (p := ⟨eb, 0, none⟩) HN2.out.2.2.2.1 (.int .i64 9)))
              clear hHE hp
              gi_wp2
              exact ⟨hk.out, ⟨rfl, HP.out⟩, hS.out, hl.out⟩
            have hl3 := hlT.out _ HB3.out
            clear hl2
            gi_wp2_with (fail)
            rw [roundsIn_succ]
            gi_wp2_with (fail)
            exact ⟨keepsFrom_below HQ3.out, ⟨Fr.kpI_below (n₀ := W.heap.size) (by have := HB0.out.size; have := HN2.out; omega) HQ3.out, Fr.kpI_below (n₀ := W.heap.size) (by have := HB0.out.size; have := HN2.out; omega) HQ3.out⟩, fun y hy => (by
              rcases List.mem_append.1 hy with h | h
              · exact HNO.out y h
              · rw [List.mem_singleton] at h
                subst h
                rw [HX.out]; rfl), HB3.out⟩
          case done =>
            rintro D xs W hD rfl ⟨hno, hB⟩ hK
            have hHE : Boxed W eb 32 (.int .i64 0) := (hB.block eb (by have := HN2.out; omega)).trans HE2.out
            have cE := hHE.cell
            have fE := hHE.frozen
            have HK := Lib.hid hK
            have hl : Below w.heap.size w W := HL3.out.trans (hB.mono HL3.out.size)
            have HLL := Lib.hid hl
            have hm : mayS F base i = 0 := by
              rw [HM.out, if_neg]
              rw [← undT_map F i i (Nat.le_refl _)]
              simp only [List.any_map, List.any_eq_true, Function.comp, Int.toNat_natCast, not_exists, not_and]
              intro y hy
              rw [hno y hy]
              decide
            have HMM := Lib.hid hm
            clear hHE hK hl hm hno hB
            gi_wp2
            go_wp2
            refine ⟨by simp, .inl ⟨_, _, rfl, run_takeDeferred HK.out, ?_⟩⟩
            refine ⟨.int .i64 0, ?_, by rw [HMM.out], HLL.out.trans (belowK_b (w := w) (Nat.le_refl _) _ D _ _ (by have := HL3.out.size; omega) HK.out rfl rfl)⟩
            simp [results, Try.f14, go_sem]
          case stop =>
            rintro D c pre W hD ⟨k, hk, hdn, rfl⟩ ⟨⟨rfl, p, x, hp, hwx⟩, hHE, hl⟩ hK
            have cE := hHE.cell
            have fE := hHE.frozen
            have HK := Lib.hid hK
            have HLL := Lib.hid hl
            have hm : mayS F base i = 9 := by
              obtain ⟨h1, h2⟩ := List.append_inj' hp rfl
              rw [List.cons.injEq] at h2
              have hx := h2.1
              subst hx
              rw [HM.out, if_pos]
              rw [List.any_eq_true]
              exact ⟨(k : Int), (mem_und F k i).2 ⟨k, hk, hdn, rfl⟩, by simpa using hwx⟩
            have HMM := Lib.hid hm
            clear hHE hK hl hm hp hwx hdn
            gi_wp2
            go_wp2
            refine ⟨by simp, .inl ⟨_, _, rfl, run_takeDeferred HK.out, ?_⟩⟩
            refine ⟨.int .i64 9, ?_, by rw [HMM.out], HLL.out.trans (belowK_b (w := w) (Nat.le_refl _) _ D _ _ (by have := HL3.out.size; omega) HK.out rfl rfl)⟩
            simp [results, Try.f14, go_sem]
      
  · rw [hd] at cd
    have HM : Hid (mayS F base i = 9) := Lib.hid (if_pos hd)
    clear hd
    go_wp2
    refine ⟨.int .i64 9, ?_, by rw [HM.out], HL3.out⟩
    simp [results, Try.f14, go_sem]
end Go.Proofs.Ytnbpgoacooddjaa
namespace Go.Proofs.Ytnbpgoacooddjaa
open Go.ChangeShapes Go.WideShapes Go.ChangeAt Go.RowKit
set_option linter.unusedVariables false
/-- The first one that is not done may be done. -/
theorem may_first (F : Nat → WI) (base : Rg) (i : Nat) (h : ∀ j, j < i → (F j).dn = true) (hd : (F i).dn = false) : mayS F base i = 0 := by
  unfold mayS
  rw [if_neg (by rw [hd]; decide), if_neg (by rw [inpS_done fOf F base i h]; decide), if_neg]
  intro hh
  rw [List.any_eq_true] at hh
  obtain ⟨x, hx, _⟩ := hh
  obtain ⟨j, hj, hdj, _⟩ := (mem_und F x i).1 hx
  rw [h j hj] at hdj
  cases hdj
/-- What waits for one that stands ahead, not done, may not be done. -/
theorem may_wait (F : Nat → WI) (base : Rg) (i j : Nat) (hj : j < i) (hd : (F j).dn = false) (hw : waitB F base i j = true) : mayS F base i = 9 := by
  unfold mayS
  split
  · rfl
  · split
    · rfl
    · rw [if_pos]
      rw [List.any_eq_true]
      exact ⟨(j : Int), (mem_und F j i).2 ⟨j, hj, hd, rfl⟩, by simpa using hw⟩
/-- Behind a barrier. -/
theorem may_behind (F : Nat → WI) (base : Rg) (i j : Nat) (hj : j < i) (hd : (F j).dn = false) (hi : (F j).i = 0)
    (h : (F j).op = 39 ∨ (((F j).op = 37 ∨ (F j).op = 38) ∧ 28 ≤ (F i).op ∧ (F i).op ≤ 36)) : mayS F base i = 9 := by
  refine may_wait F base i j hj hd ?_
  have : barB (F i).op (F j).op (F j).i = true := by
    unfold barB
    rcases h with h | ⟨h | h, h1, h2⟩
    · rw [if_pos h]
    · have hm : memB (F i).op = true := by unfold memB; simp; omega
      rw [if_neg (by omega), if_neg (by omega), if_pos h, hm, hi]; rfl
    · have hm : memB (F i).op = true := by unfold memB; simp; omega
      rw [if_neg (by omega), if_pos h, hm]; simp
  unfold waitB
  rw [this]
  rfl
theorem f_KA : fOf KA = ⟨0, Fr.puts [0, Fr.spOr 1], Fr.puts [], fun pc r => IntKind.u64.wrap (r.get (spR 1) + IntKind.u64.wrap 0)⟩ := (fOf_spec KA).s29 rfl (by decide)
theorem f_KS : fOf KS = ⟨0, Fr.puts [0, Fr.spOr 1], Fr.puts [], fun pc r => r.get (spR 1)⟩ := (fOf_spec KS).s34 rfl (by decide)
theorem f_KB : fOf KB = ⟨0, Fr.puts [Fr.spOr 1], Fr.puts [2], fun pc r => IntKind.u64.wrap (r.get (spR 1) + IntKind.u64.wrap 0)⟩ := (fOf_spec KB).s28 rfl (by decide)
theorem gR (k : Int) : getF Rz k = 0 := by
  unfold getF
  split
  · rfl
  · unfold Rg.get Rz
    split
    · rfl
    · split <;> rfl
theorem val0 (F : Nat → WI) (k : Int) : valW fOf F Rz 0 k = some 0 := by
  unfold valW
  split
  · rfl
  · unfold valS
    rw [gR]
theorem val1 (s : WI) (hs : (fOf s).outL = []) (k : Int) : valW fOf (KF s) Rz 1 k = some 0 := by
  unfold valW
  split
  · rfl
  · unfold valS
    have : (KF s 0) = s := rfl
    rw [this, hs, if_neg (by simp)]
    unfold valS
    rw [gR]
theorem ad_A0 : adS fOf (KF KA) Rz 0 = some 0 := by
  have e : KF KA 0 = KA := rfl
  unfold adS
  rw [e, f_KA, if_pos ⟨by decide, rfl⟩, show adN KA = 1 by decide, show adM KA = 31 by decide]
  unfold inpS
  rw [val0]
  simp only
  unfold inpS
  rw [val0]
  simp only
  unfold inpS
  rfl
theorem ad_S0 : adS fOf (KF KS) Rz 0 = some 0 := by
  have e : KF KS 0 = KS := rfl
  unfold adS
  rw [e, f_KS, if_pos ⟨by decide, rfl⟩, show adN KS = 1 by decide, show adM KS = 31 by decide]
  unfold inpS
  rw [val0]
  simp only
  unfold inpS
  rw [val0]
  simp only
  unfold inpS
  rfl
theorem ad_B1 (s : WI) (hs : (fOf s).outL = []) : adS fOf (KF s) Rz 1 = some 0 := by
  have e : KF s 1 = KB := rfl
  unfold adS
  rw [e, f_KB, if_pos ⟨by decide, rfl⟩, show adN KB = 1 by decide, show adM KB = 31 by decide]
  unfold inpS
  rw [val1 s hs]
  simp only
  unfold inpS
  rw [val1 s hs]
  simp only
  unfold inpS
  rfl
theorem out_A : (fOf KA).outL = [] := by rw [f_KA]; rfl
theorem out_S : (fOf KS).outL = [] := by rw [f_KS]; rfl
theorem fwd_A : fwdS fOf (KF KA) Rz 1 = some 0 := by
  have e : KF KA 1 = KB := rfl
  unfold fwdS
  rw [ad_B1 KA out_A]
  simp only
  rw [e, if_pos ⟨by decide, .inr (by decide)⟩]
  unfold fwdL
  rw [ad_A0]
  simp only
  have e0 : KF KA 0 = KA := rfl
  have hh : handB fOf (KF KA) Rz 0 = true := by
    unfold handB
    rw [val0]
    rfl
  rw [if_pos trivial, e0, if_neg (by decide), if_pos (by decide), if_pos hh]
theorem inp_B (s : WI) (hs : (fOf s).outL = []) : (inpS fOf (KF s) Rz 1 (fOf KB).inL Rz).isSome = true := by
  rw [f_KB]
  show (inpS fOf (KF s) Rz 1 [1] Rz).isSome = true
  unfold inpS
  rw [val1 s hs]
  rfl
theorem und_1 (s : WI) (hd : s.dn = false) : ∀ x ∈ und (KF s) 1, x = 0 := by
  intro x hx
  obtain ⟨j, hj, _, h⟩ := (mem_und (KF s) x 1).1 hx
  omega
theorem may_A : mayS (KF KA) Rz 1 = 0 := by
  have e : KF KA 1 = KB := rfl
  unfold mayS
  rw [e, if_neg (by decide), if_neg (by rw [inp_B KA out_A]; decide), if_neg]
  intro hh
  rw [List.any_eq_true] at hh
  obtain ⟨x, hx, hw⟩ := hh
  obtain rfl := und_1 KA rfl x hx
  unfold waitB at hw
  rw [show ((0 : Int)).toNat = 0 from rfl, ad_A0, ad_B1 KA out_A, fwd_A, e] at hw
  have : (barB KB.op (KF KA 0).op (KF KA 0).i || kindB KB.op (KF KA 0).op KB.i || placeB KB.op (KF KA 0).op (some 0) (some 0) (some 0 : Option Nat).isSome) = false := by decide
  rw [this] at hw
  cases hw
theorem may_S : mayS (KF KS) Rz 1 = 9 := by
  refine may_wait (KF KS) Rz 1 0 (by decide) rfl ?_
  have hf : fwdS fOf (KF KS) Rz 1 = none := by
    have e : KF KS 1 = KB := rfl
    unfold fwdS
    rw [ad_B1 KS out_S]
    simp only
    rw [e, if_pos ⟨by decide, .inr (by decide)⟩]
    unfold fwdL
    rw [ad_S0]
    simp only
    have e0 : KF KS 0 = KS := rfl
    have hh : handB fOf (KF KS) Rz 0 = false := by
      unfold handB
      rw [val0]
      rfl
    rw [if_pos trivial, e0, if_neg (by decide), if_pos (by decide), hh]
    rfl
  unfold waitB
  rw [ad_S0, ad_B1 KS out_S, hf]
  have : (barB (KF KS 1).op (KF KS 0).op (KF KS 0).i || kindB (KF KS 1).op (KF KS 0).op (KF KS 1).i || placeB (KF KS 1).op (KF KS 0).op (some 0) (some 0) (none : Option Nat).isSome) = true := by decide
  exact this
theorem KF_within (s : WI) (hs : s.r.within) : ∀ j, (KF s j).r.within
  | 0 => hs
  | _ + 1 => Rz_within
/-- The law's known. -/
theorem known13 : KnoP := by
  intro V
  refine known_walk V (Lib.hid fun b W hW => ?_) (Lib.hid fun b W hW => ?_) (Lib.hid fun b W hW => ?_)
  · have := forward_f (KF KA) Rz b 0 2 2 1 W (Lib.hid hW) Rz_within (fun j _ => KF_within KA Rz_within j) (by decide) (by decide)
    refine this.mono fun e w' hh => ?_
    unfold FwdP at hh
    rw [fwd_A] at hh
    exact hh
  · refine (may_c (KF KA) Rz b 0 2 2 1 W (Lib.hid hW) Rz_within (fun j _ => KF_within KA Rz_within j) (by decide) (by decide) (by decide)).mono fun e w' hh => ?_
    rw [may_A] at hh
    exact hh
  · refine (may_c (KF KS) Rz b 0 2 2 1 W (Lib.hid hW) Rz_within (fun j _ => KF_within KS Rz_within j) (by decide) (by decide) (by decide)).mono fun e w' hh => ?_
    rw [may_S] at hh
    exact hh
end Go.Proofs.Ytnbpgoacooddjaa
