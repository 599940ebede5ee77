/- LabConsts (P2301): what Const lays, done one behind the other, makes the register that number, by as few instructions as there are parts that are not 0, and changes nothing else: the law returns true, with no condition on the arguments. -/
import Derived.Test.YtnbpgoacooddjaaLw
import Derived.Test.YtnbpgoacooddjaaLj
import Derived.Test.YtnbpgoacooddjaaRows
import Derived.WalkKit
import Derived.ProofKit
import Derived.OpenShut
import Derived.ShutString
import Derived.ChangeOld
import Derived.Below
import Derived.ChangeSame
import Derived.Lib.Hide
namespace Go.Proofs.Ytnbpgoacooddjaa.Lab
open Go.ChangeShapes Go.WideShapes Go.ChangeAt Go.RowKit Go.Maps
open Go.Proofs.Ytnbpgoacooddjaa.En
set_option linter.unusedVariables false
theorem stC_same (S : Lb) (reg v : Int) : ∀ k, (stC S reg v k).err = S.err ∧ (stC S reg v k).jn = S.jn
  | 0 => ⟨rfl, rfl⟩
  | k + 1 => by
    unfold stC
    split
    · exact stC_same S reg v k
    · exact stC_same S reg v k
theorem ite_same (T S : Lb) (h : T.err = S.err ∧ T.jn = S.jn) (c : Prop) [Decidable c] (F : Nat → In) : (if c then T.app F 1 else T).err = S.err ∧ (if c then T.app F 1 else T).jn = S.jn := by
  split
  · exact h
  · exact h
theorem stZ_same (S : Lb) (reg v : Int) : (stZ S reg v).err = S.err ∧ (stZ S reg v).jn = S.jn := by
  unfold stZ
  exact ite_same _ S (stC_same S reg v 4) _ _
theorem words_k {B : Nat} {w0 w : World} {p : Nat} {S : Lb} (h : LbB B w0 w p S) (he : S.err = 0) (hj : S.jn = 0) (hg : good S.F S.n) :
    Calls Try.prog 22 #[.pointer (some ⟨p, 0, none⟩)] w fun e w' => ∃ g, e = .returned (.tuple #[.slice (some ⟨g, 0, none⟩) S.n S.n, .int .i64 0]) ∧ w.heap.size ≤ g ∧ g < w'.heap.size ∧ (∀ j, j < S.n → w'.cell? ⟨g, j, none⟩ = some (.int .u32 (S.F j).w)) ∧ Below w.heap.size w w' := by
  have := words_b h he (fun _ => 0) (fun _ => 0) (by rw [hj]; decide) (fun k hk' => by rw [hj] at hk'; omega) (by rw [hj]; exact hg)
  rw [hj] at this
  refine this.mono fun e w' hh => ?_
  obtain ⟨g, h1, h2, h3, h4⟩ := hh
  exact ⟨g, h1, h2, row_lt h3, fun j hj => (own_cells h3).1 j _ (by unfold ws; rw [List.getElem?_map, List.getElem?_range hj]; rfl), h4⟩
theorem st_regs26 {w : World} {b : Nat} {r r' : Rg} (h : rowAt w b = some r.arr) : (stAt 26 (.pointer (some ⟨b, 0, none⟩)) (.agg r'.arr)).run Try.prog w = .ok () (w.setCells b 0 r'.arr.toList) := by
  refine run_storeAt_mid w b 0 26 r'.arr (fun j hj => ?_) (by rw [Rg.size]; exact info25) r'.one
  rw [Rg.size] at hj
  rw [Nat.zero_add]
  refine ⟨?_, rowAt_frz h j⟩
  rw [rowAt_cell h j, Array.getElem?_eq_getElem (by rw [Rg.size]; omega)]
  rfl
set_option maxRecDepth 100000 in
theorem fold_regs26 (r r' : Rg) : some ((r'.arr.toList.zipIdx 0).foldl (fun cs x => cs.setIfInBounds x.2 x.1) r.arr) = some r'.arr := by kernel_rfl
theorem st_regs26_row {w : World} {b : Nat} {r r' : Rg} (h : rowAt w b = some r.arr) : rowAt (w.setCells b 0 r'.arr.toList) b = some r'.arr := by
  rw [setCells_row _ 0 w b _ h]
  exact fold_regs26 r r'
/-- What is so in the loop that does the words. -/
structure I2 (w : World) (b5 bw g n : Nat) (F : Nat → In) (r X : Rg) (W : World) : Prop where
  r5 : rowAt W b5 = some X.arr
  rw : rowAt W bw = some r.arr
  cs : ∀ j, j < n → W.cell? ⟨g, j, none⟩ = some (.int .u32 (F j).w)
  gl : g < W.heap.size
  bl : Below w.heap.size w W
theorem I2.past {w : World} {b5 bw g n : Nat} {F : Nat → In} {r X : Rg} {W u : World} (h : I2 w b5 bw g n F r X W) (hb : Below W.heap.size W u) : I2 w b5 bw g n F r X u :=
  ⟨rowAt_below h.r5 hb rfl, rowAt_below h.rw hb rfl, fun j hj => (hb.cell (p := ⟨g, j, none⟩) h.gl).trans (h.cs j hj), Nat.lt_of_lt_of_le h.gl hb.size, h.bl.trans (hb.mono h.bl.size)⟩
theorem I2.set {w : World} {b5 bw g n : Nat} {F : Nat → In} {r X : Rg} {W : World} (h : I2 w b5 bw g n F r X W) (Y : Rg) (h1 : bw ≠ b5) (h2 : g ≠ b5) (h3 : w.heap.size ≤ b5) : I2 w b5 bw g n F r Y (W.setCells b5 0 Y.arr.toList) :=
  have hg := setCells_grown Y.arr.toList 0 W b5
  ⟨st_regs26_row h.r5, rowAt_grown h.rw hg h1, fun j hj => (hg.cell_far ⟨g, j, none⟩ h.gl (fun e => h2 (by injection e))).trans (h.cs j hj), Nat.lt_of_lt_of_le h.gl hg.size, grown_below h.bl hg h3⟩
attribute [local go_sem ↓] ld26 st26 eql25
attribute [local go_sem] rowAt_drew rowAt_drewN field_efA
theorem cnt_le (v : Int) : ∀ k, cntP v k ≤ k
  | 0 => Nat.le_refl _
  | k + 1 => by
    unfold cntP
    have := cnt_le v k
    split <;> omega
theorem prt_bits (v : Int) (k : Nat) (v1 : 0 ≤ v) (v2 : v < 18446744073709551616) : bits .and .u64 (v / 2 ^ (16 * k)) 65535 = prt v k := by
  unfold prt
  have h1 : 0 ≤ v / 2 ^ (16 * k) := Int.ediv_nonneg v1 (Int.le_of_lt (Int.pow_pos (by decide)))
  have h2 : v / 2 ^ (16 * k) ≤ v := Int.ediv_le_self _ v1
  generalize v / 2 ^ (16 * k) = y at h1 h2 ⊢
  rw [Go.Proofs.Ytnbpgoacooddjaa.and_mask y h1 (by omega)]
  unfold wrap64
  omega
theorem wp_narrow8 {P : Program} {c : Code} {K : Act → World → Prop} {Q : Exit → Act → World → Prop} {a : Act} {w : World} (h : c.wp P (Exit.then K (fun _ _ _ => False)) a w) : c.wp P (Exit.then K Q) a w :=
  wp_mono h (fun e a w he => by
    cases e
    case normal => exact he
    all_goals exact False.elim he)
set_option maxRecDepth 100000 in
set_option maxHeartbeats 20000000 in
theorem consts_walk (D : Nat) (hD : D < 31) (v : Int) (v1 : 0 ≤ v) (v2 : v < 18446744073709551616) (r : Rg) (w : World) :
    Calls Try.prog 6 #[.int .i64 (D : Int), .int .u64 v, .agg r.arr] w fun e w' => e = .returned (.bool true) ∧ Below w.heap.size w w' := by
  have d1 : (0 : Int) ≤ (D : Int) := by omega
  have d2 : (D : Int) ≤ 30 := by omega
  obtain ⟨hn0, hmay0, hrun0⟩ := const_done (D : Int) v d1 d2 v1 v2 (Lb.new 0) rfl
  have hgood0 := may_e hmay0 d1 d2
  obtain ⟨herr0, hjn0⟩ := stZ_same (Lb.new 0) (D : Int) v
  have HKN := Lib.hid (known19 (w.alloc (.cells r.arr 26)))
  have HR0 : Hid (rowAt (w.alloc (.cells r.arr 26)) w.heap.size = some r.arr) := Lib.hid (rowAt_new _ _ _)
  have HCK : Hid (∀ k, k < 4 → (cI (D : Int) v k).e = 0) := Lib.hid (fun k hk => cI_e (D : Int) v k hk d1 d2 v1 v2)
  have HCK0 : Hid ((⟨2, (D : Int), 0, 0, 0, 0, 0⟩ : In).e = 0) := Lib.hid (kI_e 2 (D : Int) 0 0 (.inl rfl) d1 d2 (by decide) (by decide) (by decide))
  obtain ⟨T, hT⟩ : ∃ T, stZ (Lb.new 0) (D : Int) v = T := ⟨_, rfl⟩
  rw [hT] at hn0 hmay0 hrun0 hgood0 herr0 hjn0
  have HT := Lib.hid hT
  have HMAY := Lib.hid hmay0
  have HRUN := Lib.hid hrun0
  have HGOOD := Lib.hid hgood0
  have HERR : Hid (T.err = 0) := Lib.hid herr0
  have HJN : Hid (T.jn = 0) := Lib.hid hjn0
  clear hmay0 hrun0 hgood0 herr0 hjn0 hT
  obtain ⟨n, hn⟩ : ∃ n, T.n = n := ⟨_, rfl⟩
  rw [hn] at hn0
  have HN := Lib.hid hn
  have HN0 := Lib.hid hn0
  clear hn0 hn
  go_enter Try.func6, Try.ntmps6
  go_upto_region 10 with (first | (go_at_call 19; refine HKN.out.mono ?_; rintro e w1 ⟨rfl, hb1⟩; have HB1 := Lib.hid hb1; clear hb1) | (go_at_call 20; refine (new_b 0 _).mono ?_; rintro e w2 ⟨rfl, hl2⟩; have HL2 := Lib.hid hl2; clear hl2) | (go_at_call 21; refine (const_b HL2.out (D : Int) v ⟨d1, d2⟩ ⟨v1, v2⟩ (by decide) HCK.out HCK0.out).mono ?_; rintro e w3 ⟨rfl, hl3⟩; rw [HT.out] at hl3; have HL3 := Lib.hid hl3; clear hl3) | (go_at_call 22; refine (words_k HL3.out HERR.out HJN.out HGOOD.out).mono ?_; rintro e w4 ⟨g, rfl, hg1, hg2, hcs, hb4⟩; rw [HN.out] at hcs ⊢; have HCS := Lib.hid hcs; have HB4 := Lib.hid hb4; clear hcs hb4))
  all_goals (try (exfalso; omega))
  obtain ⟨p, hp⟩ : ∃ p, w1.heap.size + 1 = p := ⟨_, rfl⟩
  try rw [hp]
  have hA : Below (w.alloc (.cells r.arr 26)).heap.size (w.alloc (.cells r.arr 26)) w4 := HB1.out.trans (((HL3.out.bl).trans (HB4.out.mono HL3.out.sz)).mono HB1.out.size)
  have HR5 : Hid (rowAt w4 w.heap.size = some r.arr) := Lib.hid (rowAt_below HR0.out hA rfl)
  have hsz0 : (w.alloc (.cells r.arr 26)).heap.size = w.heap.size + 1 := by simp
  have HBW : Hid (Below w.heap.size w w4) := Lib.hid (((Below.refl w.heap.size w).alloc (Nat.le_refl _) (.cells r.arr 26)).trans (hA.mono (by omega)))
  have hgb : w.heap.size < g := by
    have h1 := HB1.out.size
    have h2 := HL3.out.sz
    omega
  obtain ⟨b5, hb5⟩ : ∃ b5, w.heap.size = b5 := ⟨_, rfl⟩
  have HB5 : Hid (w.heap.size ≤ b5) := Lib.hid (Nat.le_of_eq hb5)
  rw [hb5] at HR5 hgb
  try rw [hb5]
  have h54 : b5 < w4.heap.size := by omega
  have hc4 := cnt_le v 4
  clear HB1 HL2 HL3 HB4 hA hsz0 HKN HR0 HCK HCK0 hp hb5
  go_wp2
  go_loopw [10, 11] (fun s10 s11 W => ∃ k : Nat, k ≤ 4 ∧ s11 = .int .i64 k ∧ s10 = .int .i64 (cntP v k : Nat) ∧ Hid (w4 = W)) (fun _ s11 _ => 4 - (intOf s11).toNat)
  case atStart => exact ⟨0, by omega, rfl, rfl, Lib.hid rfl⟩
  case round =>
    obtain ⟨k, hk, rfl, rfl, HW⟩ := hrel
    obtain rfl := HW.out
    by_cases hlt : k < 4
    · have hck := cnt_le v k
      have hpb := prt_bits v k v1 v2
      obtain ⟨pv, hpv⟩ : ∃ pv, prt v k = pv := ⟨_, rfl⟩
      rw [hpv] at hpb
      have hcs : cntP v (k + 1) = if pv = 0 then cntP v k else cntP v k + 1 := by rw [← hpv]; rfl
      have HCN := Lib.hid hcs
      obtain ⟨cn, hcn⟩ : ∃ cn, cntP v k = cn := ⟨_, rfl⟩
      rw [hcn] at HCN hck
      try rw [hcn]
      clear hcs hpv hcn
      go_upto_region 14 with (fail)
      by_cases hz : pv = 0
      · subst hz
        go_wp2
        exact ⟨⟨k + 1, by omega, by go_num, by rw [HCN.out]; rfl, Lib.hid (by trivial)⟩, by simp [intOf]; omega⟩
      · have hpn : (pv != 0) = true := by simpa using hz
        go_wp2
        exact ⟨⟨k + 1, by omega, by go_num, by rw [HCN.out, if_neg hz]; go_num, Lib.hid (by trivial)⟩, by simp [intOf]; omega⟩
    · obtain rfl : k = 4 := by omega
      have hn0 := HN0.out
      obtain ⟨cn, hcn⟩ : ∃ cn, cntP v 4 = cn := ⟨_, rfl⟩
      rw [hcn] at hn0 hc4
      try rw [hcn]
      clear hcn
      have HZ : Hid (rowAt (w4.alloc (.cells z36 26)) w4.heap.size = some z36) := Lib.hid (rowAt_new _ _ _)
      have HR5a : Hid (rowAt (w4.alloc (.cells z36 26)) b5 = some r.arr) := Lib.hid (rowAt_past HR5.out _)
      have HBA : Hid (Below w.heap.size w (w4.alloc (.cells z36 26))) := Lib.hid (HBW.out.alloc HBW.out.size _)
      have HCSa : Hid (∀ j, j < n → (w4.alloc (.cells z36 26)).cell? ⟨g, j, none⟩ = some (.int .u32 (T.F j).w)) := Lib.hid (fun j hj => (World.cell?_alloc_past _ _ _ hg2).trans (HCS.out j hj))
      by_cases hz : cn = 0
      · subst hz
        rw [if_pos rfl] at hn0
        clear HN0
        subst hn0
        go_wp2_with (first | (refine wpl_load rfl 26 _ rfl b5 0 rfl r.arr (reg_all HR5.out) ?_) | (refine wpl_store rfl 26 _ _ rfl w4.heap.size r.arr z36 rfl rfl HZ.out (by rw [Rg.size]; exact info25) (by rw [Rg.size]; rfl) r.one ?_; intro w6 hrow6 hg6; have HR6 := Lib.hid hrow6; have HG6 : Hid ((w4.alloc (.cells z36 26)).grownBy w6 (some w4.heap.size)) := Lib.hid hg6; clear hrow6 hg6))
        all_goals (try (exfalso; omega))
        have hs1 : (w4.alloc (.cells z36 26)).heap.size = w4.heap.size + 1 := by simp
        obtain ⟨bw, hbw⟩ : ∃ bw, w4.heap.size = bw := ⟨_, rfl⟩
        have hBw : w.heap.size ≤ bw := by rw [← hbw]; exact HBW.out.size
        rw [hbw] at HR6 HG6
        try rw [hbw]
        have HI6 : Hid (I2 w b5 bw g 1 T.F r (Rn T.F r 0) w6) := Lib.hid ⟨rowAt_grown HR5a.out HG6.out (by omega), HR6.out, fun j hj => (HG6.out.cell_far ⟨g, j, none⟩ (by show g < _; omega) (fun e => by injection e with e; have e : g = bw := e; omega)).trans (HCSa.out j hj), by have := HG6.out.size; omega, grown_below HBA.out HG6.out hBw⟩
        clear HR5 HR5a HR6 HG6 HBA HCSa HCS HZ hs1 HBW
        go_loopw [13] (fun s13 W => ∃ j : Nat, j ≤ 1 ∧ s13 = .int .i64 j ∧ Hid (I2 w b5 bw g 1 T.F r (Rn T.F r j) W)) (fun s13 _ => 1 - (intOf s13).toNat)
        case atStart => exact ⟨0, Nat.zero_le _, rfl, HI6⟩
        case round =>
          obtain ⟨j, hj, rfl, HIj⟩ := hrel
          by_cases hlt : j < 1
          · have hej := HGOOD.out j (by rw [HN.out]; exact hlt)
            have hdo := may_do HMAY.out d1 d2 r j (by rw [HN.out]; exact hlt)
            obtain ⟨X, hX⟩ : ∃ X, Rn T.F r j = X := ⟨_, rfl⟩
            obtain ⟨Y, hY⟩ : ∃ Y, Rn T.F r (j + 1) = Y := ⟨_, rfl⟩
            rw [hX, hY] at hdo
            rw [hX] at HIj
            have HY := Lib.hid hY
            clear hX hY
            obtain ⟨x, hx⟩ : ∃ x, T.F j = x := ⟨_, rfl⟩
            rw [hx] at hej hdo
            have hdec := fun V => dec_in x hej V
            obtain ⟨xw, hxw⟩ : ∃ xw, x.w = xw := ⟨_, rfl⟩
            have HXW : Hid ((T.F j).w = xw) := Lib.hid (by rw [hx, hxw])
            rw [hxw] at hdec
            have HDEC : Hid (∀ V, Calls Try.prog 24 #[.int .u32 xw] V fun e w' => e = .returned (.agg #[.int .i64 x.op, .int .i64 x.d, .int .i64 x.n, .int .i64 x.m, .int .i64 x.a, .int .i64 x.c, .int .i64 x.i]) ∧ Below V.heap.size V w') := Lib.hid hdec
            have HDO : Hid (∀ V, Calls Try.prog 23 #[.agg #[.int .i64 x.op, .int .i64 x.d, .int .i64 x.n, .int .i64 x.m, .int .i64 x.a, .int .i64 x.c, .int .i64 x.i], .int .u64 0, .agg X.arr] V fun e w' => e = .returned (.agg (efA Y 4 0 0 false)) ∧ Below V.heap.size V w') := Lib.hid hdo
            clear hdec hdo hej hx hxw
            have cw : wr.cell? ⟨g, j, none⟩ = some (.int .u32 xw) := (HIj.out.cs j hlt).trans (by rw [HXW.out])
            go_upto_region 24 with (fail)
            clear cw
            have HId : Hid (I2 w b5 bw g 1 T.F r X wr.drew) := Lib.hid (HIj.out.past (Below.refl _ _).drew)
            refine wp_region_held_drew (S := fun w' => w'.cell? ⟨g, j, none⟩ = some (.int .u32 xw)) (by kernel_rfl) ((HId.out.cs j hlt).trans (by rw [HXW.out])) (fun hHeld => ?_)
            refine wpAnyH_take (i := 0) (oi := { dst := some 64, op := Go.Op.move (Go.Operand.tmp 8), type := 46, pos := "law.go:145", after := #[], guard := none }) (v := ?_) rfl (by kernel_rfl) (by kernel_rfl) (by kernel_rfl) (fun _ _ _ h => h) (Or.inl ⟨by rfl, ?_⟩) (by assumption) ?_
            rotate_left
            · (intro w0 hSw; (try dsimp only at hSw); go_split_ands; go_simp; with_reducible rfl)
            try simp only [Act.put, List.setIfInBounds_toArray, List.set_cons_zero, List.set_cons_succ]
            refine wpAnyH_take (i := 1) (oi := { dst := some 65, op := Go.Op.move (Go.Operand.tmp 13), type := 3, pos := "law.go:145", after := #[], guard := none }) (v := ?_) rfl (by kernel_rfl) (by kernel_rfl) (by kernel_rfl) (fun _ _ _ h => h) (Or.inl ⟨by rfl, ?_⟩) (by assumption) ?_
            rotate_left
            · (intro w0 hSw; (try dsimp only at hSw); go_split_ands; go_simp; with_reducible rfl)
            try simp only [Act.put, List.setIfInBounds_toArray, List.set_cons_zero, List.set_cons_succ]
            refine wpAnyH_take (i := 2) (oi := { dst := some 66, op := Go.Op.indexAddr 46 (Go.Operand.tmp 64) (Go.Operand.tmp 65), type := 0, pos := "law.go:145", after := #[{ on := 0, ground := Go.Ground.data }, { on := 1, ground := Go.Ground.data }], guard := none }) (v := ?_) rfl (by kernel_rfl) (by kernel_rfl) (by kernel_rfl) (fun _ _ _ h => h) (Or.inl ⟨by rfl, ?_⟩) (by assumption) ?_
            rotate_left
            · (intro w0 hSw; (try dsimp only at hSw); go_split_ands; go_simp; with_reducible rfl)
            try simp only [Act.put, List.setIfInBounds_toArray, List.set_cons_zero, List.set_cons_succ]
            refine wpAnyH_take (i := 3) (oi := { dst := some 67, op := Go.Op.load 54 (Go.Operand.tmp 66), type := 54, pos := "law.go:145", after := #[{ on := 2, ground := Go.Ground.data }], guard := none }) (v := ?_) rfl (by kernel_rfl) (by kernel_rfl) (by kernel_rfl) (fun _ _ _ h => h) (Or.inl ⟨by rfl, ?_⟩) (by assumption) ?_
            rotate_left
            · (intro w0 hSw; (try dsimp only at hSw); go_split_ands; go_simp; with_reducible rfl)
            try simp only [Act.put, List.setIfInBounds_toArray, List.set_cons_zero, List.set_cons_succ]
            refine wpAnyH_ready (rs := [4, 5]) (by kernel_rfl) (by simp) ?_
            refine AllReadyH.cons (o := { dst := some 68, op := Go.Op.call { callee := Go.Callee.value (Go.Operand.func 24), args := #[Go.Operand.tmp 67], argTypes := #[54] }, type := 29, pos := "law.go:145", after := #[{ on := 3, ground := Go.Ground.data }], guard := none }) rfl (fun K hK => ?_) (AllReadyH.cons (o := { dst := some 69, op := Go.Op.load 26 (Go.Operand.tmp 5), type := 26, pos := "law.go:145", after := #[], guard := none }) rfl (fun K hK => ?_) AllReadyH.nil)
            · go_simp
              go_at_call 24
              refine (HDEC.out _).mono ?_
              rintro e u1 ⟨rfl, hbu1⟩
              have HIu1 : Hid (I2 w b5 bw g 1 T.F r X u1) := Lib.hid (HId.out.past hbu1)
              clear hbu1
              refine hK.out _ _ ((HIu1.out.cs j hlt).trans (by rw [HXW.out])) (fun hHeld => ?_)
              clear hK K
              try simp only [Act.put, List.setIfInBounds_toArray, List.set_cons_zero, List.set_cons_succ]
              refine wpAnyH_ready (rs := [5]) (by kernel_rfl) (by simp) ?_
              refine AllReadyH.cons (o := { dst := some 69, op := Go.Op.load 26 (Go.Operand.tmp 5), type := 26, pos := "law.go:145", after := #[], guard := none }) rfl (fun K hK => ?_) AllReadyH.nil
              have hld := ldr u1 b5 X HIu1.out.r5
              go_simp
              refine hK.out _ _ ((HIu1.out.cs j hlt).trans (by rw [HXW.out])) (fun hHeld => ?_)
              clear hK K
              try simp only [Act.put, List.setIfInBounds_toArray, List.set_cons_zero, List.set_cons_succ]
              refine wpAnyH_ready (rs := [6]) (by kernel_rfl) (by simp) ?_
              refine AllReadyH.cons (o := { dst := some 70, op := Go.Op.call { callee := Go.Callee.value (Go.Operand.func 23), args := #[Go.Operand.tmp 68, Go.Operand.const (Go.Value.int Go.IntKind.u64 0), Go.Operand.tmp 69], argTypes := #[29, 23, 26] }, type := 51, pos := "law.go:145", after := #[{ on := 4, ground := Go.Ground.data }, { on := 5, ground := Go.Ground.data }, { on := 4, ground := Go.Ground.chain }], guard := none }) rfl (fun K hK => ?_) AllReadyH.nil
              go_simp
              go_at_call 23
              refine (HDO.out _).mono ?_
              rintro e u3 ⟨rfl, hb3⟩
              have HI3 : Hid (I2 w b5 bw g 1 T.F r X u3) := Lib.hid (HIu1.out.past hb3)
              clear hb3
              refine hK.out _ _ ((HI3.out.cs j hlt).trans (by rw [HXW.out])) (fun hHeld => ?_)
              clear hK K
              try simp only [Act.put, List.setIfInBounds_toArray, List.set_cons_zero, List.set_cons_succ]
              refine wpAnyH_take (i := 7) (oi := { dst := some 71, op := Go.Op.field 51 (Go.Operand.tmp 70) 0, type := 26, pos := "law.go:145", after := #[{ on := 6, ground := Go.Ground.data }], guard := none }) (v := ?_) rfl (by kernel_rfl) (by kernel_rfl) (by kernel_rfl) (fun _ _ _ h => h) (Or.inl ⟨by rfl, ?_⟩) (by assumption) ?_
              rotate_left
              · (intro w0 hSw; (try dsimp only at hSw); go_split_ands; go_simp; with_reducible rfl)
              try simp only [Act.put, List.setIfInBounds_toArray, List.set_cons_zero, List.set_cons_succ]
              refine wpAnyH_ready (rs := [8]) (by kernel_rfl) (by simp) ?_
              refine AllReadyH.cons (o := { dst := none, op := Go.Op.store 26 (Go.Operand.tmp 5) (Go.Operand.tmp 71), type := 0, pos := "law.go:145", after := #[{ on := 7, ground := Go.Ground.data }, { on := 6, ground := Go.Ground.chain }, { on := 0, ground := Go.Ground.phase }, { on := 1, ground := Go.Ground.phase }, { on := 2, ground := Go.Ground.phase }, { on := 3, ground := Go.Ground.phase }, { on := 4, ground := Go.Ground.phase }, { on := 5, ground := Go.Ground.phase }, { on := 6, ground := Go.Ground.phase }, { on := 7, ground := Go.Ground.phase }], guard := none }) rfl (fun K hK => ?_) AllReadyH.nil
              have hst := st_regs26 (r' := Y) HI3.out.r5
              have HI4 : Hid (I2 w b5 bw g 1 T.F r Y (u3.setCells b5 0 Y.arr.toList)) := Lib.hid (HI3.out.set Y (by omega) (by omega) HB5.out)
              go_simp
              refine hK.out _ _ ((HI4.out.cs j hlt).trans (by rw [HXW.out])) (fun hHeld => ?_)
              clear hK K
              try simp only [Act.put, List.setIfInBounds_toArray, List.set_cons_zero, List.set_cons_succ]
              refine wpAnyH_done (by kernel_rfl) ?_ _
              clear hHeld
              go_wp2
              exact ⟨⟨j + 1, by omega, by go_num, Lib.hid (by rw [HY.out]; exact HI4.out)⟩, by simp [intOf]; omega⟩
            · have hld := ldr wr.drew b5 X HId.out.r5
              go_simp
              refine hK.out _ _ ((HId.out.cs j hlt).trans (by rw [HXW.out])) (fun hHeld => ?_)
              clear hK K
              try simp only [Act.put, List.setIfInBounds_toArray, List.set_cons_zero, List.set_cons_succ]
              refine wpAnyH_ready (rs := [4]) (by kernel_rfl) (by simp) ?_
              refine AllReadyH.cons (o := { dst := some 68, op := Go.Op.call { callee := Go.Callee.value (Go.Operand.func 24), args := #[Go.Operand.tmp 67], argTypes := #[54] }, type := 29, pos := "law.go:145", after := #[{ on := 3, ground := Go.Ground.data }], guard := none }) rfl (fun K hK => ?_) AllReadyH.nil
              go_simp
              go_at_call 24
              refine (HDEC.out _).mono ?_
              rintro e u1 ⟨rfl, hbu1⟩
              have HIu1 : Hid (I2 w b5 bw g 1 T.F r X u1) := Lib.hid (HId.out.past hbu1)
              clear hbu1
              refine hK.out _ _ ((HIu1.out.cs j hlt).trans (by rw [HXW.out])) (fun hHeld => ?_)
              clear hK K
              try simp only [Act.put, List.setIfInBounds_toArray, List.set_cons_zero, List.set_cons_succ]
              refine wpAnyH_ready (rs := [6]) (by kernel_rfl) (by simp) ?_
              refine AllReadyH.cons (o := { dst := some 70, op := Go.Op.call { callee := Go.Callee.value (Go.Operand.func 23), args := #[Go.Operand.tmp 68, Go.Operand.const (Go.Value.int Go.IntKind.u64 0), Go.Operand.tmp 69], argTypes := #[29, 23, 26] }, type := 51, pos := "law.go:145", after := #[{ on := 4, ground := Go.Ground.data }, { on := 5, ground := Go.Ground.data }, { on := 4, ground := Go.Ground.chain }], guard := none }) rfl (fun K hK => ?_) AllReadyH.nil
              go_simp
              go_at_call 23
              refine (HDO.out _).mono ?_
              rintro e u3 ⟨rfl, hb3⟩
              have HI3 : Hid (I2 w b5 bw g 1 T.F r X u3) := Lib.hid (HIu1.out.past hb3)
              clear hb3
              refine hK.out _ _ ((HI3.out.cs j hlt).trans (by rw [HXW.out])) (fun hHeld => ?_)
              clear hK K
              try simp only [Act.put, List.setIfInBounds_toArray, List.set_cons_zero, List.set_cons_succ]
              refine wpAnyH_take (i := 7) (oi := { dst := some 71, op := Go.Op.field 51 (Go.Operand.tmp 70) 0, type := 26, pos := "law.go:145", after := #[{ on := 6, ground := Go.Ground.data }], guard := none }) (v := ?_) rfl (by kernel_rfl) (by kernel_rfl) (by kernel_rfl) (fun _ _ _ h => h) (Or.inl ⟨by rfl, ?_⟩) (by assumption) ?_
              rotate_left
              · (intro w0 hSw; (try dsimp only at hSw); go_split_ands; go_simp; with_reducible rfl)
              try simp only [Act.put, List.setIfInBounds_toArray, List.set_cons_zero, List.set_cons_succ]
              refine wpAnyH_ready (rs := [8]) (by kernel_rfl) (by simp) ?_
              refine AllReadyH.cons (o := { dst := none, op := Go.Op.store 26 (Go.Operand.tmp 5) (Go.Operand.tmp 71), type := 0, pos := "law.go:145", after := #[{ on := 7, ground := Go.Ground.data }, { on := 6, ground := Go.Ground.chain }, { on := 0, ground := Go.Ground.phase }, { on := 1, ground := Go.Ground.phase }, { on := 2, ground := Go.Ground.phase }, { on := 3, ground := Go.Ground.phase }, { on := 4, ground := Go.Ground.phase }, { on := 5, ground := Go.Ground.phase }, { on := 6, ground := Go.Ground.phase }, { on := 7, ground := Go.Ground.phase }], guard := none }) rfl (fun K hK => ?_) AllReadyH.nil
              have hst := st_regs26 (r' := Y) HI3.out.r5
              have HI4 : Hid (I2 w b5 bw g 1 T.F r Y (u3.setCells b5 0 Y.arr.toList)) := Lib.hid (HI3.out.set Y (by omega) (by omega) HB5.out)
              go_simp
              refine hK.out _ _ ((HI4.out.cs j hlt).trans (by rw [HXW.out])) (fun hHeld => ?_)
              clear hK K
              try simp only [Act.put, List.setIfInBounds_toArray, List.set_cons_zero, List.set_cons_succ]
              refine wpAnyH_done (by kernel_rfl) ?_ _
              clear hHeld
              go_wp2
              exact ⟨⟨j + 1, by omega, by go_num, Lib.hid (by rw [HY.out]; exact HI4.out)⟩, by simp [intOf]; omega⟩
          · obtain rfl : j = 1 := by omega
            have hX : Rn T.F r 1 = r.set (D : Int) v := by have := HRUN.out r; rw [HN.out] at this; exact this
            rw [hX, Rg.set_x _ _ _ hD] at HIj
            have cX : wr.cell? ⟨b5, D, none⟩ = some (.int .u64 v) := by rw [rowAt_cell HIj.out.r5, Rg.at _ D hD]; simp [Rg.setX]
            have cB : wr.cell? ⟨bw, D, none⟩ = some (.int .u64 (r.x D)) := by rw [rowAt_cell HIj.out.rw, Rg.at _ D hD]
            have fB := rowAt_frz HIj.out.rw D
            have HW5 : Hid (rowAt (wr.setCell ⟨bw, D, none⟩ (.int .u64 v)) b5 = some (r.setX D v).arr) := Lib.hid (rowAt_set_far HIj.out.r5 (by omega) _ _)
            have HWw : Hid (rowAt (wr.setCell ⟨bw, D, none⟩ (.int .u64 v)) bw = some (r.setX D v).arr) := Lib.hid (by rw [← r.setX_arr D v hD]; exact rowAt_set HIj.out.rw _ _)
            have HWB : Hid (Below w.heap.size w (wr.setCell ⟨bw, D, none⟩ (.int .u64 v))) := Lib.hid (grown_below HIj.out.bl (grown_set _ _ _) hBw)
            go_wp2_with (first | (refine wpl_load rfl 26 _ rfl b5 0 rfl (r.setX D v).arr (reg_all HW5.out) ?_) | (refine wpl_load rfl 26 _ rfl bw 0 rfl (r.setX D v).arr (reg_all HWw.out) ?_))
            go_ret
            exact ⟨rfl, HWB.out⟩
      · rw [if_neg hz] at hn0
        subst hn0
        have hzb : ((n : Int) == 0) = false := by simp; omega
        go_wp2_with (first | (refine wpl_load rfl 26 _ rfl b5 0 rfl r.arr (reg_all HR5.out) ?_) | (refine wpl_store rfl 26 _ _ rfl w4.heap.size r.arr z36 rfl rfl HZ.out (by rw [Rg.size]; exact info25) (by rw [Rg.size]; rfl) r.one ?_; intro w6 hrow6 hg6; have HR6 := Lib.hid hrow6; have HG6 : Hid ((w4.alloc (.cells z36 26)).grownBy w6 (some w4.heap.size)) := Lib.hid hg6; clear hrow6 hg6))
        all_goals (try (exfalso; omega))
        have hs1 : (w4.alloc (.cells z36 26)).heap.size = w4.heap.size + 1 := by simp
        obtain ⟨bw, hbw⟩ : ∃ bw, w4.heap.size = bw := ⟨_, rfl⟩
        have hBw : w.heap.size ≤ bw := by rw [← hbw]; exact HBW.out.size
        rw [hbw] at HR6 HG6
        try rw [hbw]
        have HI6 : Hid (I2 w b5 bw g n T.F r (Rn T.F r 0) w6) := Lib.hid ⟨rowAt_grown HR5a.out HG6.out (by omega), HR6.out, fun j hj => (HG6.out.cell_far ⟨g, j, none⟩ (by show g < _; omega) (fun e => by injection e with e; have e : g = bw := e; omega)).trans (HCSa.out j hj), by have := HG6.out.size; omega, grown_below HBA.out HG6.out hBw⟩
        clear HR5 HR5a HR6 HG6 HBA HCSa HCS HZ hs1 HBW
        go_loopw [13] (fun s13 W => ∃ j : Nat, j ≤ n ∧ s13 = .int .i64 j ∧ Hid (I2 w b5 bw g n T.F r (Rn T.F r j) W)) (fun s13 _ => n - (intOf s13).toNat)
        case atStart => exact ⟨0, Nat.zero_le _, rfl, HI6⟩
        case round =>
          obtain ⟨j, hj, rfl, HIj⟩ := hrel
          by_cases hlt : j < n
          · have hej := HGOOD.out j (by rw [HN.out]; exact hlt)
            have hdo := may_do HMAY.out d1 d2 r j (by rw [HN.out]; exact hlt)
            obtain ⟨X, hX⟩ : ∃ X, Rn T.F r j = X := ⟨_, rfl⟩
            obtain ⟨Y, hY⟩ : ∃ Y, Rn T.F r (j + 1) = Y := ⟨_, rfl⟩
            rw [hX, hY] at hdo
            rw [hX] at HIj
            have HY := Lib.hid hY
            clear hX hY
            obtain ⟨x, hx⟩ : ∃ x, T.F j = x := ⟨_, rfl⟩
            rw [hx] at hej hdo
            have hdec := fun V => dec_in x hej V
            obtain ⟨xw, hxw⟩ : ∃ xw, x.w = xw := ⟨_, rfl⟩
            have HXW : Hid ((T.F j).w = xw) := Lib.hid (by rw [hx, hxw])
            rw [hxw] at hdec
            have HDEC : Hid (∀ V, Calls Try.prog 24 #[.int .u32 xw] V fun e w' => e = .returned (.agg #[.int .i64 x.op, .int .i64 x.d, .int .i64 x.n, .int .i64 x.m, .int .i64 x.a, .int .i64 x.c, .int .i64 x.i]) ∧ Below V.heap.size V w') := Lib.hid hdec
            have HDO : Hid (∀ V, Calls Try.prog 23 #[.agg #[.int .i64 x.op, .int .i64 x.d, .int .i64 x.n, .int .i64 x.m, .int .i64 x.a, .int .i64 x.c, .int .i64 x.i], .int .u64 0, .agg X.arr] V fun e w' => e = .returned (.agg (efA Y 4 0 0 false)) ∧ Below V.heap.size V w') := Lib.hid hdo
            clear hdec hdo hej hx hxw
            have cw : wr.cell? ⟨g, j, none⟩ = some (.int .u32 xw) := (HIj.out.cs j hlt).trans (by rw [HXW.out])
            go_upto_region 24 with (fail)
            clear cw
            have HId : Hid (I2 w b5 bw g n T.F r X wr.drew) := Lib.hid (HIj.out.past (Below.refl _ _).drew)
            refine wp_region_held_drew (S := fun w' => w'.cell? ⟨g, j, none⟩ = some (.int .u32 xw)) (by kernel_rfl) ((HId.out.cs j hlt).trans (by rw [HXW.out])) (fun hHeld => ?_)
            refine wpAnyH_take (i := 0) (oi := { dst := some 64, op := Go.Op.move (Go.Operand.tmp 8), type := 46, pos := "law.go:145", after := #[], guard := none }) (v := ?_) rfl (by kernel_rfl) (by kernel_rfl) (by kernel_rfl) (fun _ _ _ h => h) (Or.inl ⟨by rfl, ?_⟩) (by assumption) ?_
            rotate_left
            · (intro w0 hSw; (try dsimp only at hSw); go_split_ands; go_simp; with_reducible rfl)
            try simp only [Act.put, List.setIfInBounds_toArray, List.set_cons_zero, List.set_cons_succ]
            refine wpAnyH_take (i := 1) (oi := { dst := some 65, op := Go.Op.move (Go.Operand.tmp 13), type := 3, pos := "law.go:145", after := #[], guard := none }) (v := ?_) rfl (by kernel_rfl) (by kernel_rfl) (by kernel_rfl) (fun _ _ _ h => h) (Or.inl ⟨by rfl, ?_⟩) (by assumption) ?_
            rotate_left
            · (intro w0 hSw; (try dsimp only at hSw); go_split_ands; go_simp; with_reducible rfl)
            try simp only [Act.put, List.setIfInBounds_toArray, List.set_cons_zero, List.set_cons_succ]
            refine wpAnyH_take (i := 2) (oi := { dst := some 66, op := Go.Op.indexAddr 46 (Go.Operand.tmp 64) (Go.Operand.tmp 65), type := 0, pos := "law.go:145", after := #[{ on := 0, ground := Go.Ground.data }, { on := 1, ground := Go.Ground.data }], guard := none }) (v := ?_) rfl (by kernel_rfl) (by kernel_rfl) (by kernel_rfl) (fun _ _ _ h => h) (Or.inl ⟨by rfl, ?_⟩) (by assumption) ?_
            rotate_left
            · (intro w0 hSw; (try dsimp only at hSw); go_split_ands; go_simp; with_reducible rfl)
            try simp only [Act.put, List.setIfInBounds_toArray, List.set_cons_zero, List.set_cons_succ]
            refine wpAnyH_take (i := 3) (oi := { dst := some 67, op := Go.Op.load 54 (Go.Operand.tmp 66), type := 54, pos := "law.go:145", after := #[{ on := 2, ground := Go.Ground.data }], guard := none }) (v := ?_) rfl (by kernel_rfl) (by kernel_rfl) (by kernel_rfl) (fun _ _ _ h => h) (Or.inl ⟨by rfl, ?_⟩) (by assumption) ?_
            rotate_left
            · (intro w0 hSw; (try dsimp only at hSw); go_split_ands; go_simp; with_reducible rfl)
            try simp only [Act.put, List.setIfInBounds_toArray, List.set_cons_zero, List.set_cons_succ]
            refine wpAnyH_ready (rs := [4, 5]) (by kernel_rfl) (by simp) ?_
            refine AllReadyH.cons (o := { dst := some 68, op := Go.Op.call { callee := Go.Callee.value (Go.Operand.func 24), args := #[Go.Operand.tmp 67], argTypes := #[54] }, type := 29, pos := "law.go:145", after := #[{ on := 3, ground := Go.Ground.data }], guard := none }) rfl (fun K hK => ?_) (AllReadyH.cons (o := { dst := some 69, op := Go.Op.load 26 (Go.Operand.tmp 5), type := 26, pos := "law.go:145", after := #[], guard := none }) rfl (fun K hK => ?_) AllReadyH.nil)
            · go_simp
              go_at_call 24
              refine (HDEC.out _).mono ?_
              rintro e u1 ⟨rfl, hbu1⟩
              have HIu1 : Hid (I2 w b5 bw g n T.F r X u1) := Lib.hid (HId.out.past hbu1)
              clear hbu1
              refine hK.out _ _ ((HIu1.out.cs j hlt).trans (by rw [HXW.out])) (fun hHeld => ?_)
              clear hK K
              try simp only [Act.put, List.setIfInBounds_toArray, List.set_cons_zero, List.set_cons_succ]
              refine wpAnyH_ready (rs := [5]) (by kernel_rfl) (by simp) ?_
              refine AllReadyH.cons (o := { dst := some 69, op := Go.Op.load 26 (Go.Operand.tmp 5), type := 26, pos := "law.go:145", after := #[], guard := none }) rfl (fun K hK => ?_) AllReadyH.nil
              have hld := ldr u1 b5 X HIu1.out.r5
              go_simp
              refine hK.out _ _ ((HIu1.out.cs j hlt).trans (by rw [HXW.out])) (fun hHeld => ?_)
              clear hK K
              try simp only [Act.put, List.setIfInBounds_toArray, List.set_cons_zero, List.set_cons_succ]
              refine wpAnyH_ready (rs := [6]) (by kernel_rfl) (by simp) ?_
              refine AllReadyH.cons (o := { dst := some 70, op := Go.Op.call { callee := Go.Callee.value (Go.Operand.func 23), args := #[Go.Operand.tmp 68, Go.Operand.const (Go.Value.int Go.IntKind.u64 0), Go.Operand.tmp 69], argTypes := #[29, 23, 26] }, type := 51, pos := "law.go:145", after := #[{ on := 4, ground := Go.Ground.data }, { on := 5, ground := Go.Ground.data }, { on := 4, ground := Go.Ground.chain }], guard := none }) rfl (fun K hK => ?_) AllReadyH.nil
              go_simp
              go_at_call 23
              refine (HDO.out _).mono ?_
              rintro e u3 ⟨rfl, hb3⟩
              have HI3 : Hid (I2 w b5 bw g n T.F r X u3) := Lib.hid (HIu1.out.past hb3)
              clear hb3
              refine hK.out _ _ ((HI3.out.cs j hlt).trans (by rw [HXW.out])) (fun hHeld => ?_)
              clear hK K
              try simp only [Act.put, List.setIfInBounds_toArray, List.set_cons_zero, List.set_cons_succ]
              refine wpAnyH_take (i := 7) (oi := { dst := some 71, op := Go.Op.field 51 (Go.Operand.tmp 70) 0, type := 26, pos := "law.go:145", after := #[{ on := 6, ground := Go.Ground.data }], guard := none }) (v := ?_) rfl (by kernel_rfl) (by kernel_rfl) (by kernel_rfl) (fun _ _ _ h => h) (Or.inl ⟨by rfl, ?_⟩) (by assumption) ?_
              rotate_left
              · (intro w0 hSw; (try dsimp only at hSw); go_split_ands; go_simp; with_reducible rfl)
              try simp only [Act.put, List.setIfInBounds_toArray, List.set_cons_zero, List.set_cons_succ]
              refine wpAnyH_ready (rs := [8]) (by kernel_rfl) (by simp) ?_
              refine AllReadyH.cons (o := { dst := none, op := Go.Op.store 26 (Go.Operand.tmp 5) (Go.Operand.tmp 71), type := 0, pos := "law.go:145", after := #[{ on := 7, ground := Go.Ground.data }, { on := 6, ground := Go.Ground.chain }, { on := 0, ground := Go.Ground.phase }, { on := 1, ground := Go.Ground.phase }, { on := 2, ground := Go.Ground.phase }, { on := 3, ground := Go.Ground.phase }, { on := 4, ground := Go.Ground.phase }, { on := 5, ground := Go.Ground.phase }, { on := 6, ground := Go.Ground.phase }, { on := 7, ground := Go.Ground.phase }], guard := none }) rfl (fun K hK => ?_) AllReadyH.nil
              have hst := st_regs26 (r' := Y) HI3.out.r5
              have HI4 : Hid (I2 w b5 bw g n T.F r Y (u3.setCells b5 0 Y.arr.toList)) := Lib.hid (HI3.out.set Y (by omega) (by omega) HB5.out)
              go_simp
              refine hK.out _ _ ((HI4.out.cs j hlt).trans (by rw [HXW.out])) (fun hHeld => ?_)
              clear hK K
              try simp only [Act.put, List.setIfInBounds_toArray, List.set_cons_zero, List.set_cons_succ]
              refine wpAnyH_done (by kernel_rfl) ?_ _
              clear hHeld
              go_wp2
              exact ⟨⟨j + 1, by omega, by go_num, Lib.hid (by rw [HY.out]; exact HI4.out)⟩, by simp [intOf]; omega⟩
            · have hld := ldr wr.drew b5 X HId.out.r5
              go_simp
              refine hK.out _ _ ((HId.out.cs j hlt).trans (by rw [HXW.out])) (fun hHeld => ?_)
              clear hK K
              try simp only [Act.put, List.setIfInBounds_toArray, List.set_cons_zero, List.set_cons_succ]
              refine wpAnyH_ready (rs := [4]) (by kernel_rfl) (by simp) ?_
              refine AllReadyH.cons (o := { dst := some 68, op := Go.Op.call { callee := Go.Callee.value (Go.Operand.func 24), args := #[Go.Operand.tmp 67], argTypes := #[54] }, type := 29, pos := "law.go:145", after := #[{ on := 3, ground := Go.Ground.data }], guard := none }) rfl (fun K hK => ?_) AllReadyH.nil
              go_simp
              go_at_call 24
              refine (HDEC.out _).mono ?_
              rintro e u1 ⟨rfl, hbu1⟩
              have HIu1 : Hid (I2 w b5 bw g n T.F r X u1) := Lib.hid (HId.out.past hbu1)
              clear hbu1
              refine hK.out _ _ ((HIu1.out.cs j hlt).trans (by rw [HXW.out])) (fun hHeld => ?_)
              clear hK K
              try simp only [Act.put, List.setIfInBounds_toArray, List.set_cons_zero, List.set_cons_succ]
              refine wpAnyH_ready (rs := [6]) (by kernel_rfl) (by simp) ?_
              refine AllReadyH.cons (o := { dst := some 70, op := Go.Op.call { callee := Go.Callee.value (Go.Operand.func 23), args := #[Go.Operand.tmp 68, Go.Operand.const (Go.Value.int Go.IntKind.u64 0), Go.Operand.tmp 69], argTypes := #[29, 23, 26] }, type := 51, pos := "law.go:145", after := #[{ on := 4, ground := Go.Ground.data }, { on := 5, ground := Go.Ground.data }, { on := 4, ground := Go.Ground.chain }], guard := none }) rfl (fun K hK => ?_) AllReadyH.nil
              go_simp
              go_at_call 23
              refine (HDO.out _).mono ?_
              rintro e u3 ⟨rfl, hb3⟩
              have HI3 : Hid (I2 w b5 bw g n T.F r X u3) := Lib.hid (HIu1.out.past hb3)
              clear hb3
              refine hK.out _ _ ((HI3.out.cs j hlt).trans (by rw [HXW.out])) (fun hHeld => ?_)
              clear hK K
              try simp only [Act.put, List.setIfInBounds_toArray, List.set_cons_zero, List.set_cons_succ]
              refine wpAnyH_take (i := 7) (oi := { dst := some 71, op := Go.Op.field 51 (Go.Operand.tmp 70) 0, type := 26, pos := "law.go:145", after := #[{ on := 6, ground := Go.Ground.data }], guard := none }) (v := ?_) rfl (by kernel_rfl) (by kernel_rfl) (by kernel_rfl) (fun _ _ _ h => h) (Or.inl ⟨by rfl, ?_⟩) (by assumption) ?_
              rotate_left
              · (intro w0 hSw; (try dsimp only at hSw); go_split_ands; go_simp; with_reducible rfl)
              try simp only [Act.put, List.setIfInBounds_toArray, List.set_cons_zero, List.set_cons_succ]
              refine wpAnyH_ready (rs := [8]) (by kernel_rfl) (by simp) ?_
              refine AllReadyH.cons (o := { dst := none, op := Go.Op.store 26 (Go.Operand.tmp 5) (Go.Operand.tmp 71), type := 0, pos := "law.go:145", after := #[{ on := 7, ground := Go.Ground.data }, { on := 6, ground := Go.Ground.chain }, { on := 0, ground := Go.Ground.phase }, { on := 1, ground := Go.Ground.phase }, { on := 2, ground := Go.Ground.phase }, { on := 3, ground := Go.Ground.phase }, { on := 4, ground := Go.Ground.phase }, { on := 5, ground := Go.Ground.phase }, { on := 6, ground := Go.Ground.phase }, { on := 7, ground := Go.Ground.phase }], guard := none }) rfl (fun K hK => ?_) AllReadyH.nil
              have hst := st_regs26 (r' := Y) HI3.out.r5
              have HI4 : Hid (I2 w b5 bw g n T.F r Y (u3.setCells b5 0 Y.arr.toList)) := Lib.hid (HI3.out.set Y (by omega) (by omega) HB5.out)
              go_simp
              refine hK.out _ _ ((HI4.out.cs j hlt).trans (by rw [HXW.out])) (fun hHeld => ?_)
              clear hK K
              try simp only [Act.put, List.setIfInBounds_toArray, List.set_cons_zero, List.set_cons_succ]
              refine wpAnyH_done (by kernel_rfl) ?_ _
              clear hHeld
              go_wp2
              exact ⟨⟨j + 1, by omega, by go_num, Lib.hid (by rw [HY.out]; exact HI4.out)⟩, by simp [intOf]; omega⟩
          · obtain rfl : j = n := by omega
            have hX : Rn T.F r j = r.set (D : Int) v := by have := HRUN.out r; rw [HN.out] at this; exact this
            rw [hX, Rg.set_x _ _ _ hD] at HIj
            have cX : wr.cell? ⟨b5, D, none⟩ = some (.int .u64 v) := by rw [rowAt_cell HIj.out.r5, Rg.at _ D hD]; simp [Rg.setX]
            have cB : wr.cell? ⟨bw, D, none⟩ = some (.int .u64 (r.x D)) := by rw [rowAt_cell HIj.out.rw, Rg.at _ D hD]
            have fB := rowAt_frz HIj.out.rw D
            have HW5 : Hid (rowAt (wr.setCell ⟨bw, D, none⟩ (.int .u64 v)) b5 = some (r.setX D v).arr) := Lib.hid (rowAt_set_far HIj.out.r5 (by omega) _ _)
            have HWw : Hid (rowAt (wr.setCell ⟨bw, D, none⟩ (.int .u64 v)) bw = some (r.setX D v).arr) := Lib.hid (by rw [← r.setX_arr D v hD]; exact rowAt_set HIj.out.rw _ _)
            have HWB : Hid (Below w.heap.size w (wr.setCell ⟨bw, D, none⟩ (.int .u64 v))) := Lib.hid (grown_below HIj.out.bl (grown_set _ _ _) hBw)
            go_wp2_with (first | (refine wpl_load rfl 26 _ rfl b5 0 rfl (r.setX D v).arr (reg_all HW5.out) ?_) | (refine wpl_load rfl 26 _ rfl bw 0 rfl (r.setX D v).arr (reg_all HWw.out) ?_))
            go_ret
            exact ⟨rfl, HWB.out⟩
end Go.Proofs.Ytnbpgoacooddjaa.Lab
namespace Go.Proofs.Ytnbpgoacooddjaa.labConsts
open Go.ChangeShapes Go.WideShapes Go.ChangeAt Go.RowKit
open Go.Proofs.Ytnbpgoacooddjaa.Lab
set_option linter.unusedVariables false
theorem u64_in {H : Type} {enc : TypeId × Value → H} {W : World} {base : Nat} {spare : Nat → Bool} {held : Bool} {x : Int} {d : DataW H} {p : List MemPlace} (h : DataW.Trod enc Try.prog W base spare held 23 (.int .u64 x) d p) : 0 ≤ x ∧ x < 18446744073709551616 := by
  obtain ⟨fuel, hf⟩ := h
  obtain ⟨z, hz, _, hw⟩ := DataW.trod_int Try.underlying23 hf
  simp [Value.cells] at hz
  subst hz
  exact u64_bds hw
theorem own : ownKnob Try.prog.godebug = none := by kernel_rfl
theorem laidOut : laidOutB Try.prog = true := by kernel_rfl
set_option maxRecDepth 100000 in
set_option maxHeartbeats 8000000 in
theorem walk (x : Int) (v : Int) (v1 : 0 ≤ v) (v2 : v < 18446744073709551616) (r : Rg) (w : World) : Calls Try.prog 6 #[.int .i64 x, .int .u64 v, .agg r.arr] w fun e w' => e = .returned (.bool true) ∧ Below w.heap.size w w' := by
  by_cases h : 0 ≤ x ∧ x ≤ 30
  · obtain ⟨D, rfl⟩ := Int.eq_ofNat_of_zero_le h.1
    exact consts_walk D (by omega) v v1 v2 r w
  · have HKN := Lib.hid (known19 (w.alloc (.cells r.arr 26)))
    have HB0 : Hid (Below w.heap.size w (w.alloc (.cells r.arr 26))) := Lib.hid ((Below.refl _ _).alloc (Nat.le_refl _) _)
    go_enter Try.func6, Try.ntmps6
    go_wp2_with (go_at_call 19; refine HKN.out.mono ?_; rintro e w1 ⟨rfl, hb1⟩; have HB1 := Lib.hid (below_step HB0.out hb1 rfl rfl rfl rfl); clear hb1)
    all_goals (try (exfalso; omega))
    all_goals go_ret
    all_goals exact ⟨rfl, HB1.out⟩
set_option maxRecDepth 100000 in
theorem lifted (os : Os) (started : os.Started) (H : Type) (enc : TypeId × Value → H) :
    ReturnsInHanded {} Try.checked os 6 .any (Rows.labConstsSpec.pre6 enc Try.prog Try.f6 Rows.labConstsRow.domain false) (Rows.labConstsSpec.post enc Try.prog Try.f6 false true false false) := by
  refine returnsInHanded_of_change (C := Try.checked) own started (by kernel_rfl) Try.func6
    (ChangeSpec.witness6 (enc := enc) (C := Try.checked) false ⟨#[], #[.int .i64 0, .int .u64 0, .agg z36], []⟩ 8 (by kernel_rfl) (by kernel_rfl) (by kernel_rfl) (by kernel_rfl)) ?_
  intro W base args ds gs before hval0 hW hcnd _
  have hval : ∀ (j : Nat) t v, Try.f6.params[j]? = some t → args[j]? = some v → Value.okWide Try.prog W .any base t v := hval0
  have hW' := hW
  obtain ⟨p, q, hA0, hV, rfl, hfz, hnd⟩ := hW
  have hA : DataW.TrodAll enc Try.prog W 0 (fun _ => true) true Try.f6.params.toList args.toList ds p := hA0
  rw [Try.params6] at hA hval
  obtain ⟨v0, vs0, d0, ds0, p0, q0, hargs, rfl, rfl, h0, r0⟩ := trodAll_cons hA
  obtain ⟨v1, vs1, d1, ds1, p1, q1, rfl, rfl, rfl, h1, r1⟩ := trodAll_cons r0
  obtain ⟨v2, vs2, d2, ds2, p2, q2, rfl, rfl, rfl, h2, r2⟩ := trodAll_cons r1
  obtain ⟨rfl, rfl, rfl⟩ := trodAll_nil r2
  obtain rfl : args = #[v0, v1, v2] := by cases args; simp_all
  obtain ⟨rfl, rfl⟩ := trodVars_none hV
  obtain ⟨x0, rfl⟩ := okWide_int Try.underlying3 (hval 0 3 v0 rfl rfl)
  obtain ⟨x1, rfl⟩ := okWide_int Try.underlying23 (hval 1 23 v1 rfl rfl)
  have hb1 := u64_in h1
  obtain ⟨rg, _, rfl⟩ := regs_open (hval 2 26 v2 rfl rfl) h2
  have k0 := h0
  have k1 := h1
  have k2 := h2
  have lt0 : ∀ x ∈ p0, x.block < W.heap.size := by obtain ⟨m, hm⟩ := k0; exact DataW.trod_lt m _ _ _ hm
  have lt1 : ∀ x ∈ p1, x.block < W.heap.size := by obtain ⟨m, hm⟩ := k1; exact DataW.trod_lt m _ _ _ hm
  have lt2 : ∀ x ∈ p2, x.block < W.heap.size := by obtain ⟨m, hm⟩ := k2; exact DataW.trod_lt m _ _ _ hm
  clear hA0 hval0
  refine (walk x0 x1 hb1.1 hb1.2 rg W).mono fun e W' ⟨he, bel⟩ => ?_
  subst he
  exact ⟨_, rfl, _, _, _, [], _, [], hW', trodAll_mk1 (shut_bool Try.underlying4 _), (trodAll_cons_mk (Below.trod laidOut (by kernel_rfl) (of_decide_eq_true (by kernel_rfl)) k0 bel lt0) (trodAll_cons_mk (Below.trod laidOut (by kernel_rfl) (of_decide_eq_true (by kernel_rfl)) k1 bel lt1) (trodAll_cons_mk (Below.trod laidOut (by kernel_rfl) (of_decide_eq_true (by kernel_rfl)) k2 bel lt2) trodAll_mk0))), rfl, bel.frame _, fun h => by cases h⟩

theorem over : Rows.labConstsRow.holds Try.pinned (OpenSpec.ofChange Rows.labConstsSpec) :=
  OpenClaim.holds_of_wide 6 Try.f6 rfl rfl rfl rfl rfl rfl rfl ⟨rfl, rfl, rfl, rfl, rfl⟩ rfl rfl rfl rfl rfl (by kernel_rfl) Try.func6 (by kernel_rfl)
    (of_decide_eq_true (by kernel_rfl)) (by unfold Func.isWrapper; first | (rw [if_pos (by decide +kernel)]; kernel_rfl) | (rw [if_neg (by decide +kernel)]; exact ⟨rfl, rfl⟩))
    (fun os started H enc _ => lifted os started H enc)

/-- THE STATEMENT -/
theorem proved : Rows.LabConstsSaid := over
#print axioms proved
end Go.Proofs.Ytnbpgoacooddjaa.labConsts
