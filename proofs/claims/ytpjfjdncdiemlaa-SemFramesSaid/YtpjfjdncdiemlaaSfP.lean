import Derived.Test.YtpjfjdncdiemlaaSfK
import Derived.Test.YtpjfjdncdiemlaaSxN
import Derived.WalkKit
import Derived.ProofKit
import Derived.OpenShut
import Derived.Deep.QuietTactic
import Derived.BigQuiet
import Derived.Outline
import Derived.WalkSmall
import Derived.WalkLawsBesides
import Derived.WalkSpells
import Derived.BigGuardPart
import Derived.RegionTactic
import Derived.Deep.RegionHeld3
import Derived.Lib.Hide
import Derived.Deep.MidRow
import Derived.Below
import Derived.Deep.RegionWith
namespace Go.Proofs.Ytpjfjdncdiemlaa
open Go.ChangeShapes Go.WideShapes Go.ChangeAt Go.RowKit
open Fr (puts mem_puts puts_length)
set_option linter.unusedVariables false
attribute [local go_sem ↓] ld76 ld25 ld38 st25
attribute [local go_sem] rowAt_drew rowAt_drewN
def LstB (mb : Nat) (w : World) (v : Value) (xs : List Int) : Prop :=
  (xs = [] ∧ v = .slice none 0 0) ∨ ∃ g cap, v = .slice (some ⟨g, 0, none⟩) xs.length cap ∧ xs.length ≤ cap ∧ g < mb ∧ ∀ i x, xs[i]? = some x → w.cell? ⟨g, i, none⟩ = some (.int .i64 x)
theorem Lst.bound {w : World} {v : Value} {xs : List Int} (h : Lst w v xs) : LstB w.heap.size w v xs := h
theorem LstB.lst {mb : Nat} {w : World} {v : Value} {xs : List Int} (h : LstB mb w v xs) (hm : mb ≤ w.heap.size) : Lst w v xs := by
  rcases h with h | ⟨g, cap, hv, hle, hg, hc⟩
  · exact .inl h
  · exact .inr ⟨g, cap, hv, hle, by omega, hc⟩
theorem LstB.keep {mb : Nat} {w w' : World} {v : Value} {xs : List Int} (h : LstB mb w v xs) (hc : ∀ b i, b < mb → w'.cell? ⟨b, i, none⟩ = w.cell? ⟨b, i, none⟩) : LstB mb w' v xs := by
  rcases h with h | ⟨g, cap, hv, hle, hg, hcl⟩
  · exact .inl h
  · exact .inr ⟨g, cap, hv, hle, hg, fun i x hx => by rw [hc g i hg]; exact hcl i x hx⟩
theorem rwd {w : World} {b : Nat} {X : Option (Array Value)} (h : rowAt w b = X) : rowAt w.drew b = X := h
/-- What stands while the law goes on: the instruction, r, what is read, what is written, the registers that are made. -/
structure St (b : Nat) (o d n m a c i : Int) (r M : Rg) (vi vt : Value) (I T : List Int) (mb : Nat) (w : World) : Prop where
  ins : InsAt w b (.int .i64 o) (.int .i64 d) (.int .i64 n) (.int .i64 m) (.int .i64 a) (.int .i64 c) (.int .i64 i)
  reg : rowAt w (b + 1) = some r.arr
  inn : LstB mb w vi (puts I)
  out : LstB mb w vt (puts T)
  mm : rowAt w mb = some M.arr
  lt : b + 2 < mb
theorem heap_of {w w' : World} (h : w'.heap = w.heap) (b : Nat) : rowAt w' b = rowAt w b := by unfold rowAt; rw [h]
theorem St.same {b : Nat} {o d n m a c i : Int} {r M : Rg} {vi vt : Value} {I T : List Int} {mb : Nat} {w w' : World} (h : St b o d n m a c i r M vi vt I T mb w) (he : w'.heap = w.heap) : St b o d n m a c i r M vi vt I T mb w' := by
  have hc : ∀ p, w'.cell? p = w.cell? p := fun p => by unfold World.cell?; rw [he]
  obtain ⟨⟨h0, c0, c1, c2, c3, c4, c5, c6⟩, h2, h3, h4, h5, h6⟩ := h
  exact ⟨⟨by rw [he]; exact h0, by rw [hc]; exact c0, by rw [hc]; exact c1, by rw [hc]; exact c2, by rw [hc]; exact c3, by rw [hc]; exact c4, by rw [hc]; exact c5, by rw [hc]; exact c6⟩,
    by rw [heap_of he]; exact h2, h3.keep fun _ _ _ => hc _, h4.keep fun _ _ _ => hc _, by rw [heap_of he]; exact h5, h6⟩
theorem St.below {b : Nat} {o d n m a c i : Int} {r M : Rg} {vi vt : Value} {I T : List Int} {mb : Nat} {w w' : World} (h : St b o d n m a c i r M vi vt I T mb w) (hb : Below w.heap.size w w') : St b o d n m a c i r M vi vt I T mb w' := by
  have hm := rowAt_lt h.mm
  have hc : ∀ k j, k < mb → w'.cell? ⟨k, j, none⟩ = w.cell? ⟨k, j, none⟩ := fun k j hk => hb.cell (p := ⟨k, j, none⟩) (by show k < w.heap.size; omega)
  exact ⟨h.ins.below' hb rfl, rowAt_below h.reg hb rfl, h.inn.keep hc, h.out.keep hc, rowAt_below h.mm hb rfl, h.lt⟩
theorem St.store {b : Nat} {o d n m a c i : Int} {r M M' : Rg} {vi vt : Value} {I T : List Int} {mb : Nat} {w w' : World} (h : St b o d n m a c i r M vi vt I T mb w) (hg : w.grownBy w' (some mb)) (hm : rowAt w' mb = some M'.arr) : St b o d n m a c i r M' vi vt I T mb w' := by
  have hl := h.lt
  have hmb := rowAt_lt h.mm
  have hc : ∀ k j, k < mb → w'.cell? ⟨k, j, none⟩ = w.cell? ⟨k, j, none⟩ := fun k j hk => hg.cell_far ⟨k, j, none⟩ (by show k < w.heap.size; omega) (fun e => by injection e with e; have e : k = mb := e; omega)
  exact ⟨h.ins.far hg (by omega), rowAt_grown h.reg hg (by omega), h.inn.keep hc, h.out.keep hc, hm, h.lt⟩
def ldB (o : Int) : Bool := o == 28 || o == 30 || o == 31 || o == 33 || o == 35
theorem load_o (o : Int) (b : Bool) (h : Hid (ldB o = b)) (w : World) : Calls Try.prog 21 #[.int .i64 o] w fun e w' => e = .returned (.bool b) ∧ w' = w := by
  obtain rfl := h.out
  by_cases h0 : o = 28 ∨ o = 30 ∨ o = 31 ∨ o = 33 ∨ o = 35
  · rcases h0 with rfl | rfl | rfl | rfl | rfl
    all_goals
      go_enter Try.func21, Try.ntmps21
      go_wp2
      go_ret
      exact ⟨rfl, rfl⟩
  · have e1 : (o == 28) = false := by simp; omega
    have e2 : (o == 30) = false := by simp; omega
    have e3 : (o == 31) = false := by simp; omega
    have e4 : (o == 33) = false := by simp; omega
    have e5 : (o == 35) = false := by simp; omega
    have HB : Hid (ldB o = false) := Lib.hid (by unfold ldB; rw [e1, e2, e3, e4, e5]; rfl)
    clear h0
    go_enter Try.func21, Try.ntmps21
    go_wp2
    go_ret
    exact ⟨by rw [HB.out]; rfl, rfl⟩
theorem LstB.below {mb : Nat} {w W w' : World} {v : Value} {xs : List Int} (h : LstB mb w v xs) (hb : Below W.heap.size W w') (he : W.heap = w.heap) (hm : mb ≤ w.heap.size) : LstB mb w' v xs :=
  h.keep fun b i hlt => by
    have : b < W.heap.size := by rw [he]; omega
    rw [hb.cell (p := ⟨b, i, none⟩) this]
    unfold World.cell?
    rw [he]
theorem has_b {xs : List Int} {v : Value} {x : Int} {b : Bool} {w : World} (h : Lst w v xs) (hl : xs.length ≤ 6) (hb : Hid (hasB xs x = b)) (w0 : World) (he : w0 = w := by rfl) :
    Calls Try.prog 22 #[v, .int .i64 x] w0 fun e w' => e = .returned (.bool b) ∧ w' = w0 := by
  subst he
  rw [← hb.out]
  exact has_any xs v x w0 h hl
set_option maxRecDepth 100000 in
theorem efA_regs (r : Rg) (nx ad da : Int) (to : Bool) : (efA r nx ad da to).extract 0 (0 + 36) = r.arr := by kernel_rfl
theorem ef_regs {w : World} {b : Nat} {r : Rg} {nx ad da : Int} {to : Bool} (h : rowAt w b = some (efA r nx ad da to)) : (ldAt 25 (.pointer (some ⟨b, 0, none⟩))).run Try.prog w = .ok (.agg r.arr) w := by
  show (Instr.loadAt 25 (.pointer (some ⟨b, 0, none⟩))).run Try.prog w = _
  rw [load25 b 0 w _ h (by rw [efA_size]; omega), efA_regs]
theorem efA_lo (r : Rg) (nx ad da : Int) (to : Bool) (k : Nat) (hk : k < 36) : (efA r nx ad da to)[k]? = r.arr[k]? := by
  rw [← efA_regs r nx ad da to, Array.getElem?_extract]
  rw [if_pos (by rw [efA_size]; omega), Nat.zero_add]
theorem St.far {b : Nat} {o d n m a c i : Int} {r M : Rg} {vi vt : Value} {I T : List Int} {mb g : Nat} {w w' : World} (h : St b o d n m a c i r M vi vt I T mb w) (hg : w.grownBy w' (some g)) (hlt : mb < g) : St b o d n m a c i r M vi vt I T mb w' := by
  have hl := h.lt
  have hmb := rowAt_lt h.mm
  have hc : ∀ k j, k < mb → w'.cell? ⟨k, j, none⟩ = w.cell? ⟨k, j, none⟩ := fun k j hk => hg.cell_far ⟨k, j, none⟩ (by show k < w.heap.size; omega) (fun e => by injection e with e; have e : k = g := e; omega)
  exact ⟨h.ins.far hg (by omega), rowAt_grown h.reg hg (by omega), h.inn.keep hc, h.out.keep hc, rowAt_grown h.mm hg (by omega), h.lt⟩
theorem St.below' {b : Nat} {o d n m a c i : Int} {r M : Rg} {vi vt : Value} {I T : List Int} {mb : Nat} {w W w' : World} (h : St b o d n m a c i r M vi vt I T mb w) (hb : Below W.heap.size W w') (he : W.heap = w.heap) : St b o d n m a c i r M vi vt I T mb w' :=
  (h.same he).below hb
theorem st_regs0 {w : World} {b : Nat} {r r' : Rg} (h : rowAt w b = some r.arr) : (stAt 25 (.pointer (some ⟨b, 0, none⟩)) (.agg r'.arr)).run Try.prog w = .ok () (w.setCells b 0 r'.arr.toList) := by
  refine run_storeAt_mid w b 0 25 r'.arr (fun j hj => ?_) (by rw [Rg.size]; exact info25) r'.one
  rw [Rg.size] at hj
  rw [Nat.zero_add]
  refine ⟨?_, rowAt_frz h j⟩
  rw [rowAt_cell h j, Array.getElem?_eq_getElem (by rw [Rg.size]; omega)]
  rfl
set_option maxRecDepth 100000 in
theorem fold_regs0 (r r' : Rg) : some ((r'.arr.toList.zipIdx 0).foldl (fun cs x => cs.setIfInBounds x.2 x.1) r.arr) = some r'.arr := by kernel_rfl
theorem st_row0 {w : World} {b : Nat} {r r' : Rg} (h : rowAt w b = some r.arr) : rowAt (w.setCells b 0 r'.arr.toList) b = some r'.arr := by
  rw [setCells_row _ 0 w b _ h]
  exact fold_regs0 r r'
set_option maxRecDepth 100000 in
set_option maxHeartbeats 40000000 in
theorem frames_y (o d n m a c i pc : Int) (r q : Rg) (I T : List Int) (w : World) (hr : r.within) (hq : q.within) (H : RightP o d n m a c i I T) :
    Calls Try.prog 4 #[.agg #[.int .i64 o, .int .i64 d, .int .i64 n, .int .i64 m, .int .i64 a, .int .i64 c, .int .i64 i], .int .u64 pc, .agg r.arr, .agg q.arr] w fun e w' => e = .returned (.bool true) ∧ Below w.heap.size w w' := by
  obtain ⟨hck, hin, hout, lI, lT, hfr⟩ := H
  have HCK := Lib.hid hck
  have HIN := Lib.hid hin
  have HOUT := Lib.hid hout
  have HFR := Lib.hid (hfr pc r q hr hq)
  clear hck hin hout hfr
  have I0 : Hid (InsAt (((w.alloc (.cells #[.int .i64 o, .int .i64 d, .int .i64 n, .int .i64 m, .int .i64 a, .int .i64 c, .int .i64 i] 32)).alloc (.cells r.arr 25)).alloc (.cells q.arr 25)) w.heap.size (.int .i64 o) (.int .i64 d) (.int .i64 n) (.int .i64 m) (.int .i64 a) (.int .i64 c) (.int .i64 i)) := Lib.hid (((InsAt.new _ _ _ _ _ _ _ _).past _).past _)
  have R0 : Hid (rowAt (((w.alloc (.cells #[.int .i64 o, .int .i64 d, .int .i64 n, .int .i64 m, .int .i64 a, .int .i64 c, .int .i64 i] 32)).alloc (.cells r.arr 25)).alloc (.cells q.arr 25)) (w.heap.size + 1) = some r.arr) := Lib.hid (by have := rowAt_past (rowAt_new (w.alloc (.cells #[.int .i64 o, .int .i64 d, .int .i64 n, .int .i64 m, .int .i64 a, .int .i64 c, .int .i64 i] 32)) r.arr 25) (.cells q.arr 25); simpa using this)
  have Q0 : Hid (rowAt (((w.alloc (.cells #[.int .i64 o, .int .i64 d, .int .i64 n, .int .i64 m, .int .i64 a, .int .i64 c, .int .i64 i] 32)).alloc (.cells r.arr 25)).alloc (.cells q.arr 25)) (w.heap.size + 2) = some q.arr) := Lib.hid (by have := rowAt_new ((w.alloc (.cells #[.int .i64 o, .int .i64 d, .int .i64 n, .int .i64 m, .int .i64 a, .int .i64 c, .int .i64 i] 32)).alloc (.cells r.arr 25)) q.arr 25; simpa using this)
  have B0 : Hid (Below w.heap.size w (((w.alloc (.cells #[.int .i64 o, .int .i64 d, .int .i64 n, .int .i64 m, .int .i64 a, .int .i64 c, .int .i64 i] 32)).alloc (.cells r.arr 25)).alloc (.cells q.arr 25))) := Lib.hid ((((Below.refl _ _).alloc (Nat.le_refl _) _).alloc (by simp) _).alloc (by simp; omega) _)
  go_enter Try.func4, Try.ntmps4
  go_wp2_with fail
  refine (known6_c _).mono ?_
  rintro e w1 ⟨rfl, hb⟩
  have I1 := Lib.hid (I0.out.below' hb rfl)
  have R1 := Lib.hid (rowAt_below R0.out hb rfl)
  have Q1 := Lib.hid (rowAt_below Q0.out hb rfl)
  have B1 := Lib.hid (below_step B0.out hb rfl rfl rfl rfl)
  clear hb I0 R0 Q0 B0
  obtain ⟨hl, i0, i1, i2, i3, i4, i5, i6⟩ := I1.out
  go_wp2_with fail
  refine (HCK.out _).mono ?_
  rintro e w2 ⟨rfl, hb⟩
  have I2 := Lib.hid (I1.out.below' hb rfl)
  have R2 := Lib.hid (rowAt_below R1.out hb rfl)
  have Q2 := Lib.hid (rowAt_below Q1.out hb rfl)
  have B2 := Lib.hid (B1.out.trans (hb.mono B1.out.size))
  clear hb I1 R1 Q1 B1 hl i0 i1 i2 i3 i4 i5 i6
  obtain ⟨hl, i0, i1, i2, i3, i4, i5, i6⟩ := I2.out
  go_wp2_with fail
  refine (HIN.out _).mono ?_
  rintro e w3 ⟨vi, rfl, ho3, hn3, hb⟩
  have I3 := Lib.hid (I2.out.below' hb rfl)
  have R3 := Lib.hid (rowAt_below R2.out hb rfl)
  have Q3 := Lib.hid (rowAt_below Q2.out hb rfl)
  have B3 := Lib.hid (B2.out.trans (hb.mono B2.out.size))
  have L3 := Lib.hid (Lst.of_row ho3 hn3)
  clear hb ho3 hn3 I2 R2 Q2 B2 hl i0 i1 i2 i3 i4 i5 i6
  obtain ⟨hl, i0, i1, i2, i3, i4, i5, i6⟩ := I3.out
  go_wp2_with fail
  refine (HOUT.out _).mono ?_
  rintro e w4 ⟨vt, rfl, ho4, hn4, hb⟩
  have I4 := Lib.hid (I3.out.below' hb rfl)
  have R4 := Lib.hid (rowAt_below R3.out hb rfl)
  have Q4 := Lib.hid (rowAt_below Q3.out hb rfl)
  have B4 := Lib.hid (B3.out.trans (hb.mono B3.out.size))
  have L4 := Lib.hid (L3.out.below hb rfl)
  have T4 := Lib.hid (Lst.of_row ho4 hn4)
  clear hb ho4 hn4 I3 R3 Q3 B3 L3 hl i0 i1 i2 i3 i4 i5 i6
  have hq4 : w.heap.size + 2 < w4.heap.size := rowAt_lt Q4.out
  have hZ5 : Hid (rowAt (w4.alloc (.cells z36 25)) w4.heap.size = some z36) := Lib.hid (rowAt_new w4 z36 25)
  have HP0 : Hid (∀ w5, rowAt w5 w4.heap.size = some q.arr → (w4.alloc (.cells z36 25)).grownBy w5 (some w4.heap.size) → St w.heap.size o d n m a c i r q vi vt I T w4.heap.size w5 ∧ Below w.heap.size w w5) := Lib.hid fun w5 hrow hg => by
    have hc : ∀ k j, k < w4.heap.size → w5.cell? ⟨k, j, none⟩ = w4.cell? ⟨k, j, none⟩ := fun k j hk => (hg.cell_far ⟨k, j, none⟩ (by show k < (w4.alloc _).heap.size; simp; omega) (fun e => by injection e with e; have e : k = w4.heap.size := e; omega)).trans (((Below.refl _ _).alloc (Nat.le_refl _) _).cell (p := ⟨k, j, none⟩) hk)
    exact ⟨⟨(I4.out.past _).far hg (by omega), rowAt_grown (rowAt_past R4.out _) hg (by omega), L4.out.bound.keep hc, T4.out.bound.keep hc, hrow, hq4⟩, grown_below (B4.out.alloc B4.out.size _) hg (by omega)⟩
  go_wp2_with (first | (refine wpl_load rfl 25 _ rfl (w.heap.size + 2) 0 rfl q.arr (reg_all Q4.out) ?_) | (refine wpl_store rfl 25 _ _ rfl w4.heap.size q.arr z36 rfl rfl hZ5.out (by rw [Rg.size]; exact info25) (by rw [Rg.size]; rfl) q.one ?_; intro w5 hrow5 hg5; have SB5 := Lib.hid (HP0.out w5 hrow5 hg5); clear hrow5 hg5))
  obtain ⟨mb, hmb⟩ : ∃ mb, mb = w4.heap.size := ⟨_, rfl⟩
  rw [← hmb] at SB5 hq4 ⊢
  clear I4 R4 Q4 B4 L4 T4 hZ5 HP0 HCK HIN HOUT hmb
  have S5 := Lib.hid SB5.out.1
  have B5 := Lib.hid SB5.out.2
  clear SB5
  have lP : (puts I).length ≤ 6 := Nat.le_trans (puts_length I) lI
  rcases S5.out.inn with ⟨hnil, rfl⟩ | ⟨g, cap, rfl, hle, hg, hcl⟩
  · have S6 : Hid (St w.heap.size o d n m a c i r (mrg (puts I) r q) (.slice none 0 0) vt I T mb w5) := Lib.hid (by rw [hnil]; exact S5.out)
    have B6 := B5
    clear hnil S5 B5
    obtain ⟨hl, i0, i1, i2, i3, i4, i5, i6⟩ := S6.out.ins
    refine wp_loop_rounds 1 ?_
    rw [rounds_succ]
    go_wp2_with (first | (refine wpl_load rfl 25 _ rfl (w.heap.size + 1) 0 rfl r.arr (reg_all S6.out.reg) ?_))
    obtain ⟨ra, rb, nx, ad, da, to, hd1, hd2, hF⟩ := HFR.out
    have HD2 := Lib.hid hd2
    have HF := Lib.hid hF
    clear hd2 hF
    refine (hd1 _).mono ?_
    clear hd1
    rintro e w7 ⟨rfl, hb⟩
    have S7 := Lib.hid (S6.out.below hb)
    have B7 := Lib.hid (B6.out.trans (hb.mono B6.out.size))
    clear hb S6 B6 hl i0 i1 i2 i3 i4 i5 i6
    have Z7 : Hid (rowAt (w7.alloc (.cells z40 38)) w7.heap.size = some z40) := Lib.hid (rowAt_new w7 z40 38)
    have m7 := rowAt_lt S7.out.mm
    have S7' := Lib.hid (S7.out.below ((Below.refl _ _).alloc (Nat.le_refl _) (.cells z40 38)))
    have B7' := Lib.hid (B7.out.alloc B7.out.size (.cells z40 38))
    go_wp2_with (first | (refine wpl_load rfl 25 _ rfl mb 0 rfl _ (reg_all S8.out.mm) ?_) | (refine wpl_store rfl 38 _ _ rfl w7.heap.size (efA ra nx ad da to) z40 rfl rfl Z7.out (by rw [efA_size]; exact info38) (by rw [efA_size]; rfl) (efA_one _ _ _ _ _) ?_; intro w8 hrow8 hg8; have A8 := Lib.hid hrow8; have S8 := Lib.hid (S7'.out.far hg8 (by omega)); have B8 := Lib.hid (grown_below B7'.out hg8 B7.out.size); clear hrow8 hg8; obtain ⟨hl, i0, i1, i2, i3, i4, i5, i6⟩ := S8.out.ins))
    refine (HD2.out _).mono ?_
    clear HD2
    rintro e w9 ⟨rfl, hb⟩
    have S9 := Lib.hid (S8.out.below hb)
    have B9 := Lib.hid (B8.out.trans (hb.mono B8.out.size))
    have A9 := Lib.hid (rowAt_below A8.out hb rfl)
    clear hb S8 B8 A8 hl i0 i1 i2 i3 i4 i5 i6 Z7 S7 B7 S7' B7'
    obtain ⟨A, hA⟩ : ∃ A, A = w7.heap.size := ⟨_, rfl⟩
    rw [← hA] at A9 m7 ⊢
    clear hA
    have a9 := rowAt_lt A9.out
    have Z9 : Hid (rowAt (w9.alloc (.cells z40 38)) w9.heap.size = some z40) := Lib.hid (rowAt_new w9 z40 38)
    have S9' := Lib.hid (S9.out.below ((Below.refl _ _).alloc (Nat.le_refl _) (.cells z40 38)))
    have B9' := Lib.hid (B9.out.alloc B9.out.size (.cells z40 38))
    have A9' := Lib.hid (rowAt_past A9.out (.cells z40 38))
    obtain ⟨C, hC⟩ : ∃ C, C = w9.heap.size := ⟨_, rfl⟩
    have HC9 := Lib.hid hC
    have hac : A < C := by rw [hC]; exact a9
    clear hC
    have HTC : Hid (tchB o = (ldB o || (o == 36))) := Lib.hid rfl
    generalize tchB o = tb at HF HTC
    cases hld : ldB o <;> cases hoe : (o == 36)
    all_goals
      have HLD := Lib.hid hld
      rw [hld, hoe] at HTC
      clear hld
      have htb := HTC.out
      simp at htb
      subst htb
      clear HTC
      go_wp2_with (first | (refine wpl_store rfl 38 _ _ rfl w9.heap.size (efA rb nx ad da to) z40 rfl rfl Z9.out (by rw [efA_size]; exact info38) (by rw [efA_size]; rfl) (efA_one _ _ _ _ _) ?_; intro w8 hrow8 hg8; have C8 := Lib.hid hrow8; have S8 := Lib.hid (S9'.out.far hg8 (by omega)); have A8 := Lib.hid (rowAt_grown A9'.out hg8 (by omega)); have B8 := Lib.hid (grown_below B9'.out hg8 B9.out.size); clear hrow8 hg8; have a36 := (rowAt_cell A8.out 36).trans (efA_36 _ _ _ _ _); have a37 := (rowAt_cell A8.out 37).trans (efA_37 _ _ _ _ _); have a38 := (rowAt_cell A8.out 38).trans (efA_38 _ _ _ _ _); have a39 := (rowAt_cell A8.out 39).trans (efA_39 _ _ _ _ _); have b36 := (rowAt_cell C8.out 36).trans (efA_36 _ _ _ _ _); have b37 := (rowAt_cell C8.out 37).trans (efA_37 _ _ _ _ _); have b38 := (rowAt_cell C8.out 38).trans (efA_38 _ _ _ _ _); have b39 := (rowAt_cell C8.out 39).trans (efA_39 _ _ _ _ _); have i0 := S8.out.ins.2.1) | (go_at_call 21; refine (load_o _ _ HLD _).mono ?_; rintro e w' ⟨rfl, rfl⟩))
      have hreg := Lib.hid S8.out.reg
      have hlst := Lib.hid S8.out.out
      have hmb := rowAt_lt S8.out.mm
      rw [← HC9.out] at C8 ⊢
      clear a36 a37 a38 a39 b36 b37 b38 b39 i0 hoe S9' B9' A9' Z9 S9 B9 A9 HLD
      go_loopw [16, 17] (fun j u wr => ∃ k : Nat, k ≤ 33 ∧ j = .int .i64 k ∧ rowAt wr A = some (efA ra nx ad da to) ∧ rowAt wr C = some (efA rb nx ad da to) ∧ rowAt wr (w.heap.size + 1) = some r.arr ∧ LstB mb wr vt (puts T) ∧ mb ≤ wr.heap.size ∧ Below w.heap.size w wr) (fun j _ _ => 33 - (intOf j).toNat)
      case atStart => exact ⟨0, by omega, rfl, A8.out, C8.out, hreg.out, hlst.out, by omega, B8.out⟩
      case round =>
        as_aux_lemma =>
         obtain ⟨k, hk, rfl, hA, hCc, hR, hLs, hmb', hB⟩ := hrel
         have HB := Lib.hid hB
         have HLs := Lib.hid hLs
         clear hB hLs A8 B8 C8 hreg hlst S8 hmb
         by_cases hlt : k < 33
         · have lT6 : (puts T).length ≤ 6 := Nat.le_trans (puts_length T) lT
           have HL := Lib.hid (HLs.out.lst hmb')
           have la : ∀ w', rowAt w' A = some (efA ra nx ad da to) → (ldAt 25 (.pointer (some ⟨A, 0, none⟩))).run Try.prog w' = .ok (.agg ra.arr) w' := fun w' h => ef_regs h
           have lc : ∀ w', rowAt w' C = some (efA rb nx ad da to) → (ldAt 25 (.pointer (some ⟨C, 0, none⟩))).run Try.prog w' = .ok (.agg rb.arr) w' := fun w' h => ef_regs h
           have lr : ∀ w', rowAt w' (w.heap.size + 1) = some r.arr → (ldAt 25 (.pointer (some ⟨w.heap.size + 1, 0, none⟩))).run Try.prog w' = .ok (.agg r.arr) w' := fun w' h => reg_all h
           cases hh : hasB (puts T) k
           all_goals
             have HH := Lib.hid hh
             clear hh
             first
             | (have hE : (ra.get k != r.get k) = false := by
                  have h := HF.out.kept k (by omega) (by omega) (by first | exact .inr rfl | exact .inl (of_decide_eq_false HH.out))
                  simp [h])
             | (have hE : (ra.get k != rb.get k) = false := by
                  have h := HF.out.wrote rfl k (by omega) (by omega) (of_decide_eq_true HH.out)
                  simp [h])
             generalize hEa : efA ra nx ad da to = Ea at *
             generalize hEb : efA rb nx ad da to = Eb at *
             have HEa := Lib.hid hEa
             have HEb := Lib.hid hEb
             clear hEa hEb
             go_wp2_with (go_at_call 22; refine (has_b HL.out lT6 HH _).mono ?_; rintro e w' ⟨rfl, rfl⟩)
             first
             | (
               refine wp_region_held_drew (S := (fun w' => rowAt w' A = some Ea ∧ rowAt w' C = some Eb ∧ rowAt w' (w.heap.size + 1) = some r.arr)) (by kernel_rfl) ⟨hA, hCc, hR⟩ (fun hHeld => ?_)
               refine wpAnyH_take (i := 0) (oi := { dst := some 116, op := Op.move (Operand.tmp 17), type := 4, pos := "law.go:65", after := #[], guard := none }) (v := ?_) rfl (by kernel_rfl) (by kernel_rfl) (by kernel_rfl) (fun _ _ _ h => h) (Or.inl ⟨by rfl, ?_⟩) (by assumption) ?_
               rotate_left
               · (intro w0 hSw; (try dsimp only at hSw); go_split_ands; go_simp; with_reducible rfl)
               try simp only [Act.put, List.setIfInBounds_toArray, List.set_cons_zero, List.set_cons_succ]
               refine wpAnyH_take (i := 1) (oi := { dst := some 117, op := Op.unOp UnOp.not 4 (Operand.tmp 116), type := 4, pos := "law.go:65", after := #[{ on := 0, ground := Ground.data }], guard := none }) (v := ?_) rfl (by kernel_rfl) (by kernel_rfl) (by kernel_rfl) (fun _ _ _ h => h) (Or.inl ⟨by rfl, ?_⟩) (by assumption) ?_
               rotate_left
               · (intro w0 hSw; (try dsimp only at hSw); go_split_ands; go_simp; with_reducible rfl)
               try simp only [Act.put, List.setIfInBounds_toArray, List.set_cons_zero, List.set_cons_succ]
               refine wpAnyH_take (i := 2) (oi := { dst := some 118, op := Op.move (Operand.tmp 117), type := 4, pos := "law.go:65", after := #[{ on := 1, ground := Ground.data }], guard := none }) (v := ?_) rfl (by kernel_rfl) (by kernel_rfl) (by kernel_rfl) (fun _ _ _ h => h) (Or.inl ⟨by rfl, ?_⟩) (by assumption) ?_
               rotate_left
               · (intro w0 hSw; (try dsimp only at hSw); go_split_ands; go_simp; with_reducible rfl)
               try simp only [Act.put, List.setIfInBounds_toArray, List.set_cons_zero, List.set_cons_succ]
               refine wpAnyH_take (i := 3) (oi := { dst := some 119, op := Op.fieldAddr 38 (Operand.tmp 13) 0, type := 0, pos := "law.go:65", after := #[{ on := 2, ground := Ground.guard }], guard := some (2, true) }) (v := ?_) rfl (by kernel_rfl) (by kernel_rfl) (by kernel_rfl) (fun _ _ _ h => h) (Or.inl ⟨by rfl, ?_⟩) (by assumption) ?_
               rotate_left
               · (intro w0 hSw; (try dsimp only at hSw); go_split_ands; go_simp; with_reducible rfl)
               try simp only [Act.put, List.setIfInBounds_toArray, List.set_cons_zero, List.set_cons_succ]
               refine wpAnyH_take (i := 4) (oi := { dst := some 120, op := Op.load 25 (Operand.tmp 119), type := 25, pos := "law.go:65", after := #[{ on := 3, ground := Ground.data }, { on := 2, ground := Ground.guard }], guard := some (2, true) }) (v := ?_) rfl (by kernel_rfl) (by kernel_rfl) (by kernel_rfl) (fun _ _ _ h => h) (Or.inl ⟨by rfl, ?_⟩) (by assumption) ?_
               rotate_left
               · (intro w0 hSw; (try dsimp only at hSw); go_split_ands; go_simp; with_reducible rfl)
               try simp only [Act.put, List.setIfInBounds_toArray, List.set_cons_zero, List.set_cons_succ]
               refine wpAnyH_take (i := 5) (oi := { dst := some 121, op := Op.move (Operand.tmp 16), type := 3, pos := "law.go:65", after := #[{ on := 2, ground := Ground.guard }], guard := some (2, true) }) (v := ?_) rfl (by kernel_rfl) (by kernel_rfl) (by kernel_rfl) (fun _ _ _ h => h) (Or.inl ⟨by rfl, ?_⟩) (by assumption) ?_
               rotate_left
               · (intro w0 hSw; (try dsimp only at hSw); go_split_ands; go_simp; with_reducible rfl)
               try simp only [Act.put, List.setIfInBounds_toArray, List.set_cons_zero, List.set_cons_succ]
               refine wpAnyH_take (i := 7) (oi := { dst := some 123, op := Op.load 25 (Operand.tmp 6), type := 25, pos := "law.go:65", after := #[{ on := 2, ground := Ground.guard }], guard := some (2, true) }) (v := ?_) rfl (by kernel_rfl) (by kernel_rfl) (by kernel_rfl) (fun _ _ _ h => h) (Or.inl ⟨by rfl, ?_⟩) (by assumption) ?_
               rotate_left
               · (intro w0 hSw; (try dsimp only at hSw); go_split_ands; go_simp; with_reducible rfl)
               try simp only [Act.put, List.setIfInBounds_toArray, List.set_cons_zero, List.set_cons_succ]
               refine wpAnyH_take (i := 8) (oi := { dst := some 124, op := Op.move (Operand.tmp 16), type := 3, pos := "law.go:65", after := #[{ on := 2, ground := Ground.guard }], guard := some (2, true) }) (v := ?_) rfl (by kernel_rfl) (by kernel_rfl) (by kernel_rfl) (fun _ _ _ h => h) (Or.inl ⟨by rfl, ?_⟩) (by assumption) ?_
               rotate_left
               · (intro w0 hSw; (try dsimp only at hSw); go_split_ands; go_simp; with_reducible rfl)
               try simp only [Act.put, List.setIfInBounds_toArray, List.set_cons_zero, List.set_cons_succ]
               refine wpAnyH_ready (rs := [6]) (by kernel_rfl) (by simp) ?_
               refine AllReadyH.cons (o := { dst := some 122, op := Op.call { callee := Callee.value (Operand.func 11), args := #[Operand.tmp 120, Operand.tmp 121], argTypes := #[25, 3] }, type := 22, pos := "law.go:65", after := #[{ on := 4, ground := Ground.data }, { on := 5, ground := Ground.data }, { on := 2, ground := Ground.chain }, { on := 2, ground := Ground.guard }], guard := some (2, true) }) rfl (fun K hK => ?_) AllReadyH.nil
               go_simp
               go_at_call 11
               refine (get11 ra k _).mono ?_
               rintro e wa ⟨rfl, hba⟩
               have hAa : rowAt wa A = some Ea := rowAt_below hA hba rfl
               have hCa : rowAt wa C = some Eb := rowAt_below hCc hba rfl
               have hRa : rowAt wa (w.heap.size + 1) = some r.arr := rowAt_below hR hba rfl
               have HBa := Lib.hid (below_step HB.out hba rfl rfl rfl rfl)
               have HLa := Lib.hid (HLs.out.below hba rfl hmb')
               clear hba
               refine hK.out _ _ ⟨hAa, hCa, hRa⟩ (fun hHeld => ?_)
               clear hK K
               try simp only [Act.put, List.setIfInBounds_toArray, List.set_cons_zero, List.set_cons_succ]
               refine wpAnyH_ready (rs := [9]) (by kernel_rfl) (by simp) ?_
               refine AllReadyH.cons (o := { dst := some 125, op := Op.call { callee := Callee.value (Operand.func 11), args := #[Operand.tmp 123, Operand.tmp 124], argTypes := #[25, 3] }, type := 22, pos := "law.go:65", after := #[{ on := 7, ground := Ground.data }, { on := 8, ground := Ground.data }, { on := 6, ground := Ground.chain }, { on := 2, ground := Ground.guard }], guard := some (2, true) }) rfl (fun K hK => ?_) AllReadyH.nil
               go_simp
               go_at_call 11
               refine (get11 r k _).mono ?_
               rintro e wb ⟨rfl, hbb⟩
               have hAb : rowAt wb A = some Ea := rowAt_below hAa hbb rfl
               have hCb : rowAt wb C = some Eb := rowAt_below hCa hbb rfl
               have hRb : rowAt wb (w.heap.size + 1) = some r.arr := rowAt_below hRa hbb rfl
               have HBb := Lib.hid (below_step HBa.out hbb rfl rfl rfl rfl)
               have HLb := Lib.hid (HLa.out.below hbb rfl (by have := rowAt_lt hAa; omega))
               clear hbb
               refine hK.out _ _ ⟨hAb, hCb, hRb⟩ (fun hHeld => ?_)
               clear hK K
               try simp only [Act.put, List.setIfInBounds_toArray, List.set_cons_zero, List.set_cons_succ]
               refine wpAnyH_take (i := 10) (oi := { dst := some 126, op := Op.binOp BinOp.neq 22 (Operand.tmp 122) (Operand.tmp 125) 22, type := 4, pos := "law.go:65", after := #[{ on := 6, ground := Ground.data }, { on := 9, ground := Ground.data }, { on := 2, ground := Ground.guard }], guard := some (2, true) }) (v := ?_) rfl (by kernel_rfl) (by kernel_rfl) (by kernel_rfl) (fun _ _ _ h => h) (Or.inl ⟨by rfl, ?_⟩) (by assumption) ?_
               rotate_left
               · (intro w0 hSw; (try dsimp only at hSw); go_split_ands; go_simp; with_reducible rfl)
               try simp only [Act.put, List.setIfInBounds_toArray, List.set_cons_zero, List.set_cons_succ]
               refine wpAnyH_take (i := 11) (oi := { dst := some 127, op := Op.pick (Operand.tmp 118) (Operand.tmp 126) (Operand.const (Value.bool false)), type := 4, pos := "law.go:65", after := #[{ on := 2, ground := Ground.data }, { on := 10, ground := Ground.data }], guard := none }) (v := ?_) rfl (by kernel_rfl) (by kernel_rfl) (by kernel_rfl) (fun _ _ _ h => h) (Or.inl ⟨by rfl, ?_⟩) (by assumption) ?_
               rotate_left
               · (intro w0 hSw; (try dsimp only at hSw); go_split_ands; go_simp; with_reducible rfl)
               try simp only [Act.put, List.setIfInBounds_toArray, List.set_cons_zero, List.set_cons_succ]
               refine wpAnyH_take (i := 12) (oi := { dst := some 128, op := Op.move (Operand.tmp 127), type := 4, pos := "law.go:65", after := #[{ on := 11, ground := Ground.data }, { on := 9, ground := Ground.chain }], guard := none }) (v := ?_) rfl (by kernel_rfl) (by kernel_rfl) (by kernel_rfl) (fun _ _ _ h => h) (Or.inl ⟨by rfl, ?_⟩) (by assumption) ?_
               rotate_left
               · (intro w0 hSw; (try dsimp only at hSw); go_split_ands; go_simp; with_reducible rfl)
               try simp only [Act.put, List.setIfInBounds_toArray, List.set_cons_zero, List.set_cons_succ]
               refine wpAnyH_take (i := 13) (oi := { dst := some 129, op := Op.move (Operand.tmp 17), type := 4, pos := "law.go:65", after := #[{ on := 12, ground := Ground.guard }], guard := some (12, false) }) (v := ?_) rfl (by kernel_rfl) (by kernel_rfl) (by kernel_rfl) (fun _ _ _ h => h) (Or.inl ⟨by rfl, ?_⟩) (by assumption) ?_
               rotate_left
               · (intro w0 hSw; (try dsimp only at hSw); go_split_ands; go_simp; with_reducible rfl)
               try simp only [Act.put, List.setIfInBounds_toArray, List.set_cons_zero, List.set_cons_succ]
               refine wpAnyH_take (i := 14) (oi := { dst := some 130, op := Op.move (Operand.tmp 129), type := 4, pos := "law.go:65", after := #[{ on := 13, ground := Ground.data }, { on := 12, ground := Ground.chain }, { on := 12, ground := Ground.guard }], guard := some (12, false) }) (v := ?_) rfl (by kernel_rfl) (by kernel_rfl) (by kernel_rfl) (fun _ _ _ h => h) (Or.inl ⟨by rfl, ?_⟩) (by assumption) ?_
               rotate_left
               · (intro w0 hSw; (try dsimp only at hSw); go_split_ands; go_simp; with_reducible rfl)
               try simp only [Act.put, List.setIfInBounds_toArray, List.set_cons_zero, List.set_cons_succ]
               refine wpAnyH_take (i := 15) (oi := { dst := some 131, op := Op.fieldAddr 38 (Operand.tmp 13) 0, type := 0, pos := "law.go:65", after := #[{ on := 14, ground := Ground.guard }], guard := some (14, true) }) (v := undef) rfl (by kernel_rfl) (by kernel_rfl) (by kernel_rfl) (fun _ _ _ h => h) (Or.inr ⟨by rfl, rfl⟩) (by assumption) ?_
               try simp only [Act.put, List.setIfInBounds_toArray, List.set_cons_zero, List.set_cons_succ]
               refine wpAnyH_take (i := 16) (oi := { dst := some 132, op := Op.load 25 (Operand.tmp 131), type := 25, pos := "law.go:65", after := #[{ on := 15, ground := Ground.data }, { on := 14, ground := Ground.guard }], guard := some (14, true) }) (v := undef) rfl (by kernel_rfl) (by kernel_rfl) (by kernel_rfl) (fun _ _ _ h => h) (Or.inr ⟨by rfl, rfl⟩) (by assumption) ?_
               try simp only [Act.put, List.setIfInBounds_toArray, List.set_cons_zero, List.set_cons_succ]
               refine wpAnyH_take (i := 17) (oi := { dst := some 133, op := Op.move (Operand.tmp 16), type := 3, pos := "law.go:65", after := #[{ on := 14, ground := Ground.guard }], guard := some (14, true) }) (v := undef) rfl (by kernel_rfl) (by kernel_rfl) (by kernel_rfl) (fun _ _ _ h => h) (Or.inr ⟨by rfl, rfl⟩) (by assumption) ?_
               try simp only [Act.put, List.setIfInBounds_toArray, List.set_cons_zero, List.set_cons_succ]
               refine wpAnyH_take (i := 18) (oi := { dst := some 134, op := Op.call { callee := Callee.value (Operand.func 11), args := #[Operand.tmp 132, Operand.tmp 133], argTypes := #[25, 3] }, type := 22, pos := "law.go:65", after := #[{ on := 16, ground := Ground.data }, { on := 17, ground := Ground.data }, { on := 14, ground := Ground.chain }, { on := 14, ground := Ground.guard }], guard := some (14, true) }) (v := undef) rfl (by kernel_rfl) (by kernel_rfl) (by kernel_rfl) (fun _ _ _ h => h) (Or.inr ⟨by rfl, rfl⟩) (by assumption) ?_
               try simp only [Act.put, List.setIfInBounds_toArray, List.set_cons_zero, List.set_cons_succ]
               refine wpAnyH_take (i := 19) (oi := { dst := some 135, op := Op.fieldAddr 38 (Operand.tmp 14) 0, type := 0, pos := "law.go:65", after := #[{ on := 14, ground := Ground.guard }], guard := some (14, true) }) (v := undef) rfl (by kernel_rfl) (by kernel_rfl) (by kernel_rfl) (fun _ _ _ h => h) (Or.inr ⟨by rfl, rfl⟩) (by assumption) ?_
               try simp only [Act.put, List.setIfInBounds_toArray, List.set_cons_zero, List.set_cons_succ]
               refine wpAnyH_take (i := 20) (oi := { dst := some 136, op := Op.load 25 (Operand.tmp 135), type := 25, pos := "law.go:65", after := #[{ on := 19, ground := Ground.data }, { on := 14, ground := Ground.guard }], guard := some (14, true) }) (v := undef) rfl (by kernel_rfl) (by kernel_rfl) (by kernel_rfl) (fun _ _ _ h => h) (Or.inr ⟨by rfl, rfl⟩) (by assumption) ?_
               try simp only [Act.put, List.setIfInBounds_toArray, List.set_cons_zero, List.set_cons_succ]
               refine wpAnyH_take (i := 21) (oi := { dst := some 137, op := Op.move (Operand.tmp 16), type := 3, pos := "law.go:65", after := #[{ on := 14, ground := Ground.guard }], guard := some (14, true) }) (v := undef) rfl (by kernel_rfl) (by kernel_rfl) (by kernel_rfl) (fun _ _ _ h => h) (Or.inr ⟨by rfl, rfl⟩) (by assumption) ?_
               try simp only [Act.put, List.setIfInBounds_toArray, List.set_cons_zero, List.set_cons_succ]
               refine wpAnyH_take (i := 22) (oi := { dst := some 138, op := Op.call { callee := Callee.value (Operand.func 11), args := #[Operand.tmp 136, Operand.tmp 137], argTypes := #[25, 3] }, type := 22, pos := "law.go:65", after := #[{ on := 20, ground := Ground.data }, { on := 21, ground := Ground.data }, { on := 18, ground := Ground.chain }, { on := 14, ground := Ground.guard }], guard := some (14, true) }) (v := undef) rfl (by kernel_rfl) (by kernel_rfl) (by kernel_rfl) (fun _ _ _ h => h) (Or.inr ⟨by rfl, rfl⟩) (by assumption) ?_
               try simp only [Act.put, List.setIfInBounds_toArray, List.set_cons_zero, List.set_cons_succ]
               refine wpAnyH_take (i := 23) (oi := { dst := some 139, op := Op.binOp BinOp.neq 22 (Operand.tmp 134) (Operand.tmp 138) 22, type := 4, pos := "law.go:65", after := #[{ on := 18, ground := Ground.data }, { on := 22, ground := Ground.data }, { on := 14, ground := Ground.guard }], guard := some (14, true) }) (v := undef) rfl (by kernel_rfl) (by kernel_rfl) (by kernel_rfl) (fun _ _ _ h => h) (Or.inr ⟨by rfl, rfl⟩) (by assumption) ?_
               try simp only [Act.put, List.setIfInBounds_toArray, List.set_cons_zero, List.set_cons_succ]
               refine wpAnyH_take (i := 24) (oi := { dst := some 140, op := Op.pick (Operand.tmp 130) (Operand.tmp 139) (Operand.const (Value.bool false)), type := 4, pos := "law.go:65", after := #[{ on := 14, ground := Ground.data }, { on := 23, ground := Ground.data }, { on := 12, ground := Ground.guard }], guard := some (12, false) }) (v := ?_) rfl (by kernel_rfl) (by kernel_rfl) (by kernel_rfl) (fun _ _ _ h => h) (Or.inl ⟨by rfl, ?_⟩) (by assumption) ?_
               rotate_left
               · (intro w0 hSw; (try dsimp only at hSw); go_split_ands; go_simp; with_reducible rfl)
               try simp only [Act.put, List.setIfInBounds_toArray, List.set_cons_zero, List.set_cons_succ]
               refine wpAnyH_take (i := 25) (oi := { dst := some 141, op := Op.pick (Operand.tmp 128) (Operand.const (Value.bool true)) (Operand.tmp 140), type := 4, pos := "law.go:65", after := #[{ on := 12, ground := Ground.data }, { on := 24, ground := Ground.data }], guard := none }) (v := ?_) rfl (by kernel_rfl) (by kernel_rfl) (by kernel_rfl) (fun _ _ _ h => h) (Or.inl ⟨by rfl, ?_⟩) (by assumption) ?_
               rotate_left
               · (intro w0 hSw; (try dsimp only at hSw); go_split_ands; go_simp; with_reducible rfl)
               try simp only [Act.put, List.setIfInBounds_toArray, List.set_cons_zero, List.set_cons_succ]
               refine wpAnyH_done (by kernel_rfl) ?_ _
               )
             | (
               refine wp_region_held_drew (S := (fun w' => rowAt w' A = some Ea ∧ rowAt w' C = some Eb ∧ rowAt w' (w.heap.size + 1) = some r.arr)) (by kernel_rfl) ⟨hA, hCc, hR⟩ (fun hHeld => ?_)
               refine wpAnyH_take (i := 0) (oi := { dst := some 116, op := Op.move (Operand.tmp 17), type := 4, pos := "law.go:65", after := #[], guard := none }) (v := ?_) rfl (by kernel_rfl) (by kernel_rfl) (by kernel_rfl) (fun _ _ _ h => h) (Or.inl ⟨by rfl, ?_⟩) (by assumption) ?_
               rotate_left
               · (intro w0 hSw; (try dsimp only at hSw); go_split_ands; go_simp; with_reducible rfl)
               try simp only [Act.put, List.setIfInBounds_toArray, List.set_cons_zero, List.set_cons_succ]
               refine wpAnyH_take (i := 1) (oi := { dst := some 117, op := Op.unOp UnOp.not 4 (Operand.tmp 116), type := 4, pos := "law.go:65", after := #[{ on := 0, ground := Ground.data }], guard := none }) (v := ?_) rfl (by kernel_rfl) (by kernel_rfl) (by kernel_rfl) (fun _ _ _ h => h) (Or.inl ⟨by rfl, ?_⟩) (by assumption) ?_
               rotate_left
               · (intro w0 hSw; (try dsimp only at hSw); go_split_ands; go_simp; with_reducible rfl)
               try simp only [Act.put, List.setIfInBounds_toArray, List.set_cons_zero, List.set_cons_succ]
               refine wpAnyH_take (i := 2) (oi := { dst := some 118, op := Op.move (Operand.tmp 117), type := 4, pos := "law.go:65", after := #[{ on := 1, ground := Ground.data }], guard := none }) (v := ?_) rfl (by kernel_rfl) (by kernel_rfl) (by kernel_rfl) (fun _ _ _ h => h) (Or.inl ⟨by rfl, ?_⟩) (by assumption) ?_
               rotate_left
               · (intro w0 hSw; (try dsimp only at hSw); go_split_ands; go_simp; with_reducible rfl)
               try simp only [Act.put, List.setIfInBounds_toArray, List.set_cons_zero, List.set_cons_succ]
               refine wpAnyH_take (i := 3) (oi := { dst := some 119, op := Op.fieldAddr 38 (Operand.tmp 13) 0, type := 0, pos := "law.go:65", after := #[{ on := 2, ground := Ground.guard }], guard := some (2, true) }) (v := undef) rfl (by kernel_rfl) (by kernel_rfl) (by kernel_rfl) (fun _ _ _ h => h) (Or.inr ⟨by rfl, rfl⟩) (by assumption) ?_
               try simp only [Act.put, List.setIfInBounds_toArray, List.set_cons_zero, List.set_cons_succ]
               refine wpAnyH_take (i := 4) (oi := { dst := some 120, op := Op.load 25 (Operand.tmp 119), type := 25, pos := "law.go:65", after := #[{ on := 3, ground := Ground.data }, { on := 2, ground := Ground.guard }], guard := some (2, true) }) (v := undef) rfl (by kernel_rfl) (by kernel_rfl) (by kernel_rfl) (fun _ _ _ h => h) (Or.inr ⟨by rfl, rfl⟩) (by assumption) ?_
               try simp only [Act.put, List.setIfInBounds_toArray, List.set_cons_zero, List.set_cons_succ]
               refine wpAnyH_take (i := 5) (oi := { dst := some 121, op := Op.move (Operand.tmp 16), type := 3, pos := "law.go:65", after := #[{ on := 2, ground := Ground.guard }], guard := some (2, true) }) (v := undef) rfl (by kernel_rfl) (by kernel_rfl) (by kernel_rfl) (fun _ _ _ h => h) (Or.inr ⟨by rfl, rfl⟩) (by assumption) ?_
               try simp only [Act.put, List.setIfInBounds_toArray, List.set_cons_zero, List.set_cons_succ]
               refine wpAnyH_take (i := 6) (oi := { dst := some 122, op := Op.call { callee := Callee.value (Operand.func 11), args := #[Operand.tmp 120, Operand.tmp 121], argTypes := #[25, 3] }, type := 22, pos := "law.go:65", after := #[{ on := 4, ground := Ground.data }, { on := 5, ground := Ground.data }, { on := 2, ground := Ground.chain }, { on := 2, ground := Ground.guard }], guard := some (2, true) }) (v := undef) rfl (by kernel_rfl) (by kernel_rfl) (by kernel_rfl) (fun _ _ _ h => h) (Or.inr ⟨by rfl, rfl⟩) (by assumption) ?_
               try simp only [Act.put, List.setIfInBounds_toArray, List.set_cons_zero, List.set_cons_succ]
               refine wpAnyH_take (i := 7) (oi := { dst := some 123, op := Op.load 25 (Operand.tmp 6), type := 25, pos := "law.go:65", after := #[{ on := 2, ground := Ground.guard }], guard := some (2, true) }) (v := undef) rfl (by kernel_rfl) (by kernel_rfl) (by kernel_rfl) (fun _ _ _ h => h) (Or.inr ⟨by rfl, rfl⟩) (by assumption) ?_
               try simp only [Act.put, List.setIfInBounds_toArray, List.set_cons_zero, List.set_cons_succ]
               refine wpAnyH_take (i := 8) (oi := { dst := some 124, op := Op.move (Operand.tmp 16), type := 3, pos := "law.go:65", after := #[{ on := 2, ground := Ground.guard }], guard := some (2, true) }) (v := undef) rfl (by kernel_rfl) (by kernel_rfl) (by kernel_rfl) (fun _ _ _ h => h) (Or.inr ⟨by rfl, rfl⟩) (by assumption) ?_
               try simp only [Act.put, List.setIfInBounds_toArray, List.set_cons_zero, List.set_cons_succ]
               refine wpAnyH_take (i := 9) (oi := { dst := some 125, op := Op.call { callee := Callee.value (Operand.func 11), args := #[Operand.tmp 123, Operand.tmp 124], argTypes := #[25, 3] }, type := 22, pos := "law.go:65", after := #[{ on := 7, ground := Ground.data }, { on := 8, ground := Ground.data }, { on := 6, ground := Ground.chain }, { on := 2, ground := Ground.guard }], guard := some (2, true) }) (v := undef) rfl (by kernel_rfl) (by kernel_rfl) (by kernel_rfl) (fun _ _ _ h => h) (Or.inr ⟨by rfl, rfl⟩) (by assumption) ?_
               try simp only [Act.put, List.setIfInBounds_toArray, List.set_cons_zero, List.set_cons_succ]
               refine wpAnyH_take (i := 10) (oi := { dst := some 126, op := Op.binOp BinOp.neq 22 (Operand.tmp 122) (Operand.tmp 125) 22, type := 4, pos := "law.go:65", after := #[{ on := 6, ground := Ground.data }, { on := 9, ground := Ground.data }, { on := 2, ground := Ground.guard }], guard := some (2, true) }) (v := undef) rfl (by kernel_rfl) (by kernel_rfl) (by kernel_rfl) (fun _ _ _ h => h) (Or.inr ⟨by rfl, rfl⟩) (by assumption) ?_
               try simp only [Act.put, List.setIfInBounds_toArray, List.set_cons_zero, List.set_cons_succ]
               refine wpAnyH_take (i := 11) (oi := { dst := some 127, op := Op.pick (Operand.tmp 118) (Operand.tmp 126) (Operand.const (Value.bool false)), type := 4, pos := "law.go:65", after := #[{ on := 2, ground := Ground.data }, { on := 10, ground := Ground.data }], guard := none }) (v := ?_) rfl (by kernel_rfl) (by kernel_rfl) (by kernel_rfl) (fun _ _ _ h => h) (Or.inl ⟨by rfl, ?_⟩) (by assumption) ?_
               rotate_left
               · (intro w0 hSw; (try dsimp only at hSw); go_split_ands; go_simp; with_reducible rfl)
               try simp only [Act.put, List.setIfInBounds_toArray, List.set_cons_zero, List.set_cons_succ]
               refine wpAnyH_take (i := 12) (oi := { dst := some 128, op := Op.move (Operand.tmp 127), type := 4, pos := "law.go:65", after := #[{ on := 11, ground := Ground.data }, { on := 9, ground := Ground.chain }], guard := none }) (v := ?_) rfl (by kernel_rfl) (by kernel_rfl) (by kernel_rfl) (fun _ _ _ h => h) (Or.inl ⟨by rfl, ?_⟩) (by assumption) ?_
               rotate_left
               · (intro w0 hSw; (try dsimp only at hSw); go_split_ands; go_simp; with_reducible rfl)
               try simp only [Act.put, List.setIfInBounds_toArray, List.set_cons_zero, List.set_cons_succ]
               refine wpAnyH_take (i := 13) (oi := { dst := some 129, op := Op.move (Operand.tmp 17), type := 4, pos := "law.go:65", after := #[{ on := 12, ground := Ground.guard }], guard := some (12, false) }) (v := ?_) rfl (by kernel_rfl) (by kernel_rfl) (by kernel_rfl) (fun _ _ _ h => h) (Or.inl ⟨by rfl, ?_⟩) (by assumption) ?_
               rotate_left
               · (intro w0 hSw; (try dsimp only at hSw); go_split_ands; go_simp; with_reducible rfl)
               try simp only [Act.put, List.setIfInBounds_toArray, List.set_cons_zero, List.set_cons_succ]
               refine wpAnyH_take (i := 14) (oi := { dst := some 130, op := Op.move (Operand.tmp 129), type := 4, pos := "law.go:65", after := #[{ on := 13, ground := Ground.data }, { on := 12, ground := Ground.chain }, { on := 12, ground := Ground.guard }], guard := some (12, false) }) (v := ?_) rfl (by kernel_rfl) (by kernel_rfl) (by kernel_rfl) (fun _ _ _ h => h) (Or.inl ⟨by rfl, ?_⟩) (by assumption) ?_
               rotate_left
               · (intro w0 hSw; (try dsimp only at hSw); go_split_ands; go_simp; with_reducible rfl)
               try simp only [Act.put, List.setIfInBounds_toArray, List.set_cons_zero, List.set_cons_succ]
               refine wpAnyH_take (i := 15) (oi := { dst := some 131, op := Op.fieldAddr 38 (Operand.tmp 13) 0, type := 0, pos := "law.go:65", after := #[{ on := 14, ground := Ground.guard }], guard := some (14, true) }) (v := ?_) rfl (by kernel_rfl) (by kernel_rfl) (by kernel_rfl) (fun _ _ _ h => h) (Or.inl ⟨by rfl, ?_⟩) (by assumption) ?_
               rotate_left
               · (intro w0 hSw; (try dsimp only at hSw); go_split_ands; go_simp; with_reducible rfl)
               try simp only [Act.put, List.setIfInBounds_toArray, List.set_cons_zero, List.set_cons_succ]
               refine wpAnyH_take (i := 16) (oi := { dst := some 132, op := Op.load 25 (Operand.tmp 131), type := 25, pos := "law.go:65", after := #[{ on := 15, ground := Ground.data }, { on := 14, ground := Ground.guard }], guard := some (14, true) }) (v := ?_) rfl (by kernel_rfl) (by kernel_rfl) (by kernel_rfl) (fun _ _ _ h => h) (Or.inl ⟨by rfl, ?_⟩) (by assumption) ?_
               rotate_left
               · (intro w0 hSw; (try dsimp only at hSw); go_split_ands; go_simp; with_reducible rfl)
               try simp only [Act.put, List.setIfInBounds_toArray, List.set_cons_zero, List.set_cons_succ]
               refine wpAnyH_take (i := 17) (oi := { dst := some 133, op := Op.move (Operand.tmp 16), type := 3, pos := "law.go:65", after := #[{ on := 14, ground := Ground.guard }], guard := some (14, true) }) (v := ?_) rfl (by kernel_rfl) (by kernel_rfl) (by kernel_rfl) (fun _ _ _ h => h) (Or.inl ⟨by rfl, ?_⟩) (by assumption) ?_
               rotate_left
               · (intro w0 hSw; (try dsimp only at hSw); go_split_ands; go_simp; with_reducible rfl)
               try simp only [Act.put, List.setIfInBounds_toArray, List.set_cons_zero, List.set_cons_succ]
               refine wpAnyH_take (i := 19) (oi := { dst := some 135, op := Op.fieldAddr 38 (Operand.tmp 14) 0, type := 0, pos := "law.go:65", after := #[{ on := 14, ground := Ground.guard }], guard := some (14, true) }) (v := ?_) rfl (by kernel_rfl) (by kernel_rfl) (by kernel_rfl) (fun _ _ _ h => h) (Or.inl ⟨by rfl, ?_⟩) (by assumption) ?_
               rotate_left
               · (intro w0 hSw; (try dsimp only at hSw); go_split_ands; go_simp; with_reducible rfl)
               try simp only [Act.put, List.setIfInBounds_toArray, List.set_cons_zero, List.set_cons_succ]
               refine wpAnyH_take (i := 20) (oi := { dst := some 136, op := Op.load 25 (Operand.tmp 135), type := 25, pos := "law.go:65", after := #[{ on := 19, ground := Ground.data }, { on := 14, ground := Ground.guard }], guard := some (14, true) }) (v := ?_) rfl (by kernel_rfl) (by kernel_rfl) (by kernel_rfl) (fun _ _ _ h => h) (Or.inl ⟨by rfl, ?_⟩) (by assumption) ?_
               rotate_left
               · (intro w0 hSw; (try dsimp only at hSw); go_split_ands; go_simp; with_reducible rfl)
               try simp only [Act.put, List.setIfInBounds_toArray, List.set_cons_zero, List.set_cons_succ]
               refine wpAnyH_take (i := 21) (oi := { dst := some 137, op := Op.move (Operand.tmp 16), type := 3, pos := "law.go:65", after := #[{ on := 14, ground := Ground.guard }], guard := some (14, true) }) (v := ?_) rfl (by kernel_rfl) (by kernel_rfl) (by kernel_rfl) (fun _ _ _ h => h) (Or.inl ⟨by rfl, ?_⟩) (by assumption) ?_
               rotate_left
               · (intro w0 hSw; (try dsimp only at hSw); go_split_ands; go_simp; with_reducible rfl)
               try simp only [Act.put, List.setIfInBounds_toArray, List.set_cons_zero, List.set_cons_succ]
               refine wpAnyH_ready (rs := [18]) (by kernel_rfl) (by simp) ?_
               refine AllReadyH.cons (o := { dst := some 134, op := Op.call { callee := Callee.value (Operand.func 11), args := #[Operand.tmp 132, Operand.tmp 133], argTypes := #[25, 3] }, type := 22, pos := "law.go:65", after := #[{ on := 16, ground := Ground.data }, { on := 17, ground := Ground.data }, { on := 14, ground := Ground.chain }, { on := 14, ground := Ground.guard }], guard := some (14, true) }) rfl (fun K hK => ?_) AllReadyH.nil
               go_simp
               go_at_call 11
               refine (get11 ra k _).mono ?_
               rintro e wa ⟨rfl, hba⟩
               have hAa : rowAt wa A = some Ea := rowAt_below hA hba rfl
               have hCa : rowAt wa C = some Eb := rowAt_below hCc hba rfl
               have hRa : rowAt wa (w.heap.size + 1) = some r.arr := rowAt_below hR hba rfl
               have HBa := Lib.hid (below_step HB.out hba rfl rfl rfl rfl)
               have HLa := Lib.hid (HLs.out.below hba rfl hmb')
               clear hba
               refine hK.out _ _ ⟨hAa, hCa, hRa⟩ (fun hHeld => ?_)
               clear hK K
               try simp only [Act.put, List.setIfInBounds_toArray, List.set_cons_zero, List.set_cons_succ]
               refine wpAnyH_ready (rs := [22]) (by kernel_rfl) (by simp) ?_
               refine AllReadyH.cons (o := { dst := some 138, op := Op.call { callee := Callee.value (Operand.func 11), args := #[Operand.tmp 136, Operand.tmp 137], argTypes := #[25, 3] }, type := 22, pos := "law.go:65", after := #[{ on := 20, ground := Ground.data }, { on := 21, ground := Ground.data }, { on := 18, ground := Ground.chain }, { on := 14, ground := Ground.guard }], guard := some (14, true) }) rfl (fun K hK => ?_) AllReadyH.nil
               go_simp
               go_at_call 11
               refine (get11 rb k _).mono ?_
               rintro e wb ⟨rfl, hbb⟩
               have hAb : rowAt wb A = some Ea := rowAt_below hAa hbb rfl
               have hCb : rowAt wb C = some Eb := rowAt_below hCa hbb rfl
               have hRb : rowAt wb (w.heap.size + 1) = some r.arr := rowAt_below hRa hbb rfl
               have HBb := Lib.hid (below_step HBa.out hbb rfl rfl rfl rfl)
               have HLb := Lib.hid (HLa.out.below hbb rfl (by have := rowAt_lt hAa; omega))
               clear hbb
               refine hK.out _ _ ⟨hAb, hCb, hRb⟩ (fun hHeld => ?_)
               clear hK K
               try simp only [Act.put, List.setIfInBounds_toArray, List.set_cons_zero, List.set_cons_succ]
               refine wpAnyH_take (i := 23) (oi := { dst := some 139, op := Op.binOp BinOp.neq 22 (Operand.tmp 134) (Operand.tmp 138) 22, type := 4, pos := "law.go:65", after := #[{ on := 18, ground := Ground.data }, { on := 22, ground := Ground.data }, { on := 14, ground := Ground.guard }], guard := some (14, true) }) (v := ?_) rfl (by kernel_rfl) (by kernel_rfl) (by kernel_rfl) (fun _ _ _ h => h) (Or.inl ⟨by rfl, ?_⟩) (by assumption) ?_
               rotate_left
               · (intro w0 hSw; (try dsimp only at hSw); go_split_ands; go_simp; with_reducible rfl)
               try simp only [Act.put, List.setIfInBounds_toArray, List.set_cons_zero, List.set_cons_succ]
               refine wpAnyH_take (i := 24) (oi := { dst := some 140, op := Op.pick (Operand.tmp 130) (Operand.tmp 139) (Operand.const (Value.bool false)), type := 4, pos := "law.go:65", after := #[{ on := 14, ground := Ground.data }, { on := 23, ground := Ground.data }, { on := 12, ground := Ground.guard }], guard := some (12, false) }) (v := ?_) rfl (by kernel_rfl) (by kernel_rfl) (by kernel_rfl) (fun _ _ _ h => h) (Or.inl ⟨by rfl, ?_⟩) (by assumption) ?_
               rotate_left
               · (intro w0 hSw; (try dsimp only at hSw); go_split_ands; go_simp; with_reducible rfl)
               try simp only [Act.put, List.setIfInBounds_toArray, List.set_cons_zero, List.set_cons_succ]
               refine wpAnyH_take (i := 25) (oi := { dst := some 141, op := Op.pick (Operand.tmp 128) (Operand.const (Value.bool true)) (Operand.tmp 140), type := 4, pos := "law.go:65", after := #[{ on := 12, ground := Ground.data }, { on := 24, ground := Ground.data }], guard := none }) (v := ?_) rfl (by kernel_rfl) (by kernel_rfl) (by kernel_rfl) (fun _ _ _ h => h) (Or.inl ⟨by rfl, ?_⟩) (by assumption) ?_
               rotate_left
               · (intro w0 hSw; (try dsimp only at hSw); go_split_ands; go_simp; with_reducible rfl)
               try simp only [Act.put, List.setIfInBounds_toArray, List.set_cons_zero, List.set_cons_succ]
               refine wpAnyH_done (by kernel_rfl) ?_ _
               )
             have HAF := Lib.hid hAb
             have HCF := Lib.hid hCb
             have HRF := Lib.hid hRb
             have HMF : Hid (mb ≤ wb.heap.size) := Lib.hid (by have := rowAt_lt hAb; omega)
             clear la lc lr hA hCc hR hAa hCa hRa hAb hCb hRb HBa HLa HB HL hHeld hmb'
             go_wp2
             go_roundw
             case rel => exact ⟨k + 1, by omega, by go_num, HAF.out, HCF.out, HRF.out, HLb.out, HMF.out, HBb.out⟩
             case measure => simp [intOf]; omega
         · have lT6 : (puts T).length ≤ 6 := Nat.le_trans (puts_length T) lT
           have HL := Lib.hid (HLs.out.lst hmb')
           have HA := Lib.hid hA
           have HCC := Lib.hid hCc
           have HR := Lib.hid hR
           clear hA hCc hR
           have a32 := (rowAt_cell HA.out 32).trans (efA_lo _ _ _ _ _ 32 (by omega) |>.trans ra.at32)
           have a33 := (rowAt_cell HA.out 33).trans (efA_lo _ _ _ _ _ 33 (by omega) |>.trans ra.at33)
           have a34 := (rowAt_cell HA.out 34).trans (efA_lo _ _ _ _ _ 34 (by omega) |>.trans ra.at34)
           have a35 := (rowAt_cell HA.out 35).trans (efA_lo _ _ _ _ _ 35 (by omega) |>.trans ra.at35)
           cases hh : hasB (puts T) 33
           · have HH := Lib.hid hh
             clear hh
             have c32 := (rowAt_cell HR.out 32).trans r.at32
             have c33 := (rowAt_cell HR.out 33).trans r.at33
             have c34 := (rowAt_cell HR.out 34).trans r.at34
             have c35 := (rowAt_cell HR.out 35).trans r.at35
             obtain ⟨f1, f2, f3, f4⟩ := HF.out.nofl (of_decide_eq_false HH.out)
             have e1 : (ra.n == r.n) = true := by simp [f1]
             have e2 : (ra.z == r.z) = true := by simp [f2]
             have e3 : (ra.c == r.c) = true := by simp [f3]
             have e4 : (ra.v == r.v) = true := by simp [f4]
             clear f1 f2 f3 f4
             go_wp2_with (go_at_call 22; refine (has_b HL.out lT6 HH _).mono ?_; rintro e w' ⟨rfl, rfl⟩)
             go_ret
             exact ⟨rfl, HB.out⟩
           · have HH := Lib.hid hh
             clear hh
             have c32 := (rowAt_cell HCC.out 32).trans (efA_lo _ _ _ _ _ 32 (by omega) |>.trans rb.at32)
             have c33 := (rowAt_cell HCC.out 33).trans (efA_lo _ _ _ _ _ 33 (by omega) |>.trans rb.at33)
             have c34 := (rowAt_cell HCC.out 34).trans (efA_lo _ _ _ _ _ 34 (by omega) |>.trans rb.at34)
             have c35 := (rowAt_cell HCC.out 35).trans (efA_lo _ _ _ _ _ 35 (by omega) |>.trans rb.at35)
             obtain ⟨f1, f2, f3, f4⟩ := HF.out.fl (of_decide_eq_true HH.out)
             have e1 : (ra.n == rb.n) = true := by simp [f1]
             have e2 : (ra.z == rb.z) = true := by simp [f2]
             have e3 : (ra.c == rb.c) = true := by simp [f3]
             have e4 : (ra.v == rb.v) = true := by simp [f4]
             clear f1 f2 f3 f4
             go_wp2_with (go_at_call 22; refine (has_b HL.out lT6 HH _).mono ?_; rintro e w' ⟨rfl, rfl⟩)
             go_ret
             exact ⟨rfl, HB.out⟩
  · have HC : Hid (g < mb) := Lib.hid hg
    clear hcl hle hg
    obtain ⟨L, hL⟩ : ∃ L, (puts I).length = L := ⟨_, rfl⟩
    rw [hL] at lP S5 ⊢
    have HL := Lib.hid hL
    clear hL
    go_loopw [12] (fun j wr => ∃ k : Nat, k ≤ L ∧ j = .int .i64 k ∧ St w.heap.size o d n m a c i r (mrg ((puts I).take k) r q) (.slice (some ⟨g, 0, none⟩) L cap) vt I T mb wr ∧ Below w.heap.size w wr) (fun j _ => L - (intOf j).toNat)
    case atStart => exact ⟨0, Nat.zero_le _, rfl, S5.out, B5.out⟩
    case round =>
      obtain ⟨k, hk, rfl, hS, hB⟩ := hrel
      have HS := Lib.hid hS
      have HB := Lib.hid hB
      clear hS hB
      by_cases hlt : k < L
      · obtain ⟨x, hx⟩ : ∃ x, (puts I)[k]? = some x := ⟨_, List.getElem?_eq_getElem (by rw [HL.out]; exact hlt)⟩
        have hc : wr.cell? ⟨g, k, none⟩ = some (.int .i64 x) := by
          rcases HS.out.inn with ⟨hn, hv⟩ | ⟨g', cap', hv, hle, hg, hcl⟩
          · cases hv
          · injection hv with e1 e2 e3
            injection e1 with e1
            injection e1 with e1
            subst e1
            exact hcl k x hx
        have HT : Hid (mrg ((puts I).take (k + 1)) r q = lay1 r (mrg ((puts I).take k) r q) x) := Lib.hid (by rw [List.take_add_one, hx]; exact mrg_snoc _ _ _ _)
        clear hx
        generalize mrg ((puts I).take k) r q = M at *
        by_cases hx : x = 33
        · have hx3 : (x == 33) = true := by simpa using hx
          have HM : Hid (lay1 r M x = M.flags r.n r.z r.c r.v) := Lib.hid (by unfold lay1; rw [if_pos hx])
          clear hx
          have hR := HS.out.reg
          have hM := HS.out.mm
          have ne : w.heap.size + 1 ≠ mb := by omega
          have r32 : ∀ w', rowAt w' (w.heap.size + 1) = some r.arr → w'.cell? ⟨w.heap.size + 1, 32, none⟩ = some (.bool r.n) := fun w' h => (rowAt_cell h 32).trans r.at32
          have r33 : ∀ w', rowAt w' (w.heap.size + 1) = some r.arr → w'.cell? ⟨w.heap.size + 1, 33, none⟩ = some (.bool r.z) := fun w' h => (rowAt_cell h 33).trans r.at33
          have r34 : ∀ w', rowAt w' (w.heap.size + 1) = some r.arr → w'.cell? ⟨w.heap.size + 1, 34, none⟩ = some (.bool r.c) := fun w' h => (rowAt_cell h 34).trans r.at34
          have r35 : ∀ w', rowAt w' (w.heap.size + 1) = some r.arr → w'.cell? ⟨w.heap.size + 1, 35, none⟩ = some (.bool r.v) := fun w' h => (rowAt_cell h 35).trans r.at35
          have m32 := (rowAt_cell hM 32).trans M.at32
          have m33 := (rowAt_cell hM 33).trans M.at33
          have m34 := (rowAt_cell hM 34).trans M.at34
          have m35 := (rowAt_cell hM 35).trans M.at35
          have f32 := rowAt_frz hM 32
          have f33 := rowAt_frz hM 33
          have f34 := rowAt_frz hM 34
          have f35 := rowAt_frz hM 35
          clear hM
          go_wp2
          go_region_held3 (fun w' => rowAt w' (w.heap.size + 1) = some r.arr) (first | with_reducible exact rwd (rowAt_set_far hR ne _ _) | with_reducible exact rwd (rowAt_set_far (rowAt_set_far hR ne _ _) ne _ _) | with_reducible exact rwd (rowAt_set_far (rowAt_set_far (rowAt_set_far hR ne _ _) ne _ _) ne _ _) | with_reducible exact rwd (rowAt_set_far (rowAt_set_far (rowAt_set_far (rowAt_set_far hR ne _ _) ne _ _) ne _ _) ne _ _) | exact hR) (fail)
          have HX : Hid (St w.heap.size o d n m a c i r (M.flags r.n r.z r.c r.v) (.slice (some ⟨g, 0, none⟩) L cap) vt I T mb ((((wr.setCell ⟨mb, 32, none⟩ (.bool r.n)).setCell ⟨mb, 33, none⟩ (.bool r.z)).setCell ⟨mb, 34, none⟩ (.bool r.c)).setCell ⟨mb, 35, none⟩ (.bool r.v)).drew) := Lib.hid (by
            have g4 := (((grown_set wr ⟨mb, 32, none⟩ (.bool r.n)).trans (grown_set _ ⟨mb, 33, none⟩ (.bool r.z))).trans (grown_set _ ⟨mb, 34, none⟩ (.bool r.c))).trans (grown_set _ ⟨mb, 35, none⟩ (.bool r.v))
            have h4 := rowAt_set (rowAt_set (rowAt_set (rowAt_set HS.out.mm 32 (.bool r.n)) 33 (.bool r.z)) 34 (.bool r.c)) 35 (.bool r.v)
            rw [M.flags_arr] at h4
            exact (HS.out.store g4 h4).same rfl)
          have HY : Hid (Below w.heap.size w ((((wr.setCell ⟨mb, 32, none⟩ (.bool r.n)).setCell ⟨mb, 33, none⟩ (.bool r.z)).setCell ⟨mb, 34, none⟩ (.bool r.c)).setCell ⟨mb, 35, none⟩ (.bool r.v)).drew) := Lib.hid (by
            have h4 := (((HB.out.setCell (p := ⟨mb, 32, none⟩) (by show w.heap.size ≤ mb; omega) (.bool r.n)).setCell (p := ⟨mb, 33, none⟩) (by show w.heap.size ≤ mb; omega) (.bool r.z)).setCell (p := ⟨mb, 34, none⟩) (by show w.heap.size ≤ mb; omega) (.bool r.c)).setCell (p := ⟨mb, 35, none⟩) (by show w.heap.size ≤ mb; omega) (.bool r.v)
            exact ⟨h4.os, h4.tape, h4.output, h4.size, h4.block⟩)
          clear r32 r33 r34 r35 m32 m33 m34 m35 f32 f33 f34 f35 hR
          go_wp2
          go_roundw
          case rel => exact ⟨k + 1, by omega, by go_num, by rw [HT.out, HM.out]; exact HX.out, HY.out⟩
          case measure => simp [intOf]; omega
        · have hx3 : (x == 33) = false := by simpa using hx
          have HM : Hid (lay1 r M x = M.set x (r.get x)) := Lib.hid (by unfold lay1; rw [if_neg hx])
          clear hx
          have hR := HS.out.reg
          have hM := HS.out.mm
          have hG := HC.out
          have hr1 : ∀ w', rowAt w' (w.heap.size + 1) = some r.arr → (ldAt 25 (.pointer (some ⟨w.heap.size + 1, 0, none⟩))).run Try.prog w' = .ok (.agg r.arr) w' := fun w' h => reg_all h
          have hm1 : ∀ w', rowAt w' mb = some M.arr → (ldAt 25 (.pointer (some ⟨mb, 0, none⟩))).run Try.prog w' = .ok (.agg M.arr) w' := fun w' h => reg_all h
          have hst : ∀ w', rowAt w' mb = some M.arr → (stAt 25 (.pointer (some ⟨mb, 0, none⟩)) (.agg (M.set x (r.get x)).arr)).run Try.prog w' = .ok () (w'.setCells mb 0 (M.set x (r.get x)).arr.toList) := fun w' h => st_regs0 h
          go_wp2
          have hgl : g < wr.heap.size := by have := rowAt_lt hM; omega
          refine wp_region_held_drew (S := (fun w' => rowAt w' (w.heap.size + 1) = some r.arr ∧ w'.cell? ⟨g, k, none⟩ = some (.int .i64 x))) (by kernel_rfl) ⟨hR, hc⟩ (fun hHeld => ?_)
          refine wpAnyH_take (i := 1) (oi := { dst := some 52, op := Op.move (Operand.tmp 9), type := 35, pos := "law.go:54", after := #[], guard := none }) (v := ?_) rfl (by kernel_rfl) (by kernel_rfl) (by kernel_rfl) (fun _ _ _ h => h) (Or.inl ⟨by rfl, ?_⟩) (by assumption) ?_
          rotate_left
          · (intro w0 hSw; (try dsimp only at hSw); go_split_ands; go_simp; with_reducible rfl)
          try simp only [Act.put, List.setIfInBounds_toArray, List.set_cons_zero, List.set_cons_succ]
          refine wpAnyH_take (i := 2) (oi := { dst := some 53, op := Op.move (Operand.tmp 12), type := 3, pos := "law.go:54", after := #[], guard := none }) (v := ?_) rfl (by kernel_rfl) (by kernel_rfl) (by kernel_rfl) (fun _ _ _ h => h) (Or.inl ⟨by rfl, ?_⟩) (by assumption) ?_
          rotate_left
          · (intro w0 hSw; (try dsimp only at hSw); go_split_ands; go_simp; with_reducible rfl)
          try simp only [Act.put, List.setIfInBounds_toArray, List.set_cons_zero, List.set_cons_succ]
          refine wpAnyH_take (i := 3) (oi := { dst := some 54, op := Op.indexAddr 35 (Operand.tmp 52) (Operand.tmp 53), type := 0, pos := "law.go:54", after := #[{ on := 1, ground := Ground.data }, { on := 2, ground := Ground.data }], guard := none }) (v := ?_) rfl (by kernel_rfl) (by kernel_rfl) (by kernel_rfl) (fun _ _ _ h => h) (Or.inl ⟨by rfl, ?_⟩) (by assumption) ?_
          rotate_left
          · (intro w0 hSw; (try dsimp only at hSw); go_split_ands; go_simp; with_reducible rfl)
          try simp only [Act.put, List.setIfInBounds_toArray, List.set_cons_zero, List.set_cons_succ]
          refine wpAnyH_take (i := 4) (oi := { dst := some 55, op := Op.load 3 (Operand.tmp 54), type := 3, pos := "law.go:54", after := #[{ on := 3, ground := Ground.data }], guard := none }) (v := ?_) rfl (by kernel_rfl) (by kernel_rfl) (by kernel_rfl) (fun _ _ _ h => h) (Or.inl ⟨by rfl, ?_⟩) (by assumption) ?_
          rotate_left
          · (intro w0 hSw; (try dsimp only at hSw); go_split_ands; go_simp; with_reducible rfl)
          try simp only [Act.put, List.setIfInBounds_toArray, List.set_cons_zero, List.set_cons_succ]
          refine wpAnyH_take (i := 5) (oi := { dst := some 56, op := Op.load 25 (Operand.tmp 6), type := 25, pos := "law.go:54", after := #[], guard := none }) (v := ?_) rfl (by kernel_rfl) (by kernel_rfl) (by kernel_rfl) (fun _ _ _ h => h) (Or.inl ⟨by rfl, ?_⟩) (by assumption) ?_
          rotate_left
          · (intro w0 hSw; (try dsimp only at hSw); go_split_ands; go_simp; with_reducible rfl)
          try simp only [Act.put, List.setIfInBounds_toArray, List.set_cons_zero, List.set_cons_succ]
          refine wpAnyH_take (i := 6) (oi := { dst := some 57, op := Op.move (Operand.tmp 9), type := 35, pos := "law.go:54", after := #[], guard := none }) (v := ?_) rfl (by kernel_rfl) (by kernel_rfl) (by kernel_rfl) (fun _ _ _ h => h) (Or.inl ⟨by rfl, ?_⟩) (by assumption) ?_
          rotate_left
          · (intro w0 hSw; (try dsimp only at hSw); go_split_ands; go_simp; with_reducible rfl)
          try simp only [Act.put, List.setIfInBounds_toArray, List.set_cons_zero, List.set_cons_succ]
          refine wpAnyH_take (i := 7) (oi := { dst := some 58, op := Op.move (Operand.tmp 12), type := 3, pos := "law.go:54", after := #[], guard := none }) (v := ?_) rfl (by kernel_rfl) (by kernel_rfl) (by kernel_rfl) (fun _ _ _ h => h) (Or.inl ⟨by rfl, ?_⟩) (by assumption) ?_
          rotate_left
          · (intro w0 hSw; (try dsimp only at hSw); go_split_ands; go_simp; with_reducible rfl)
          try simp only [Act.put, List.setIfInBounds_toArray, List.set_cons_zero, List.set_cons_succ]
          refine wpAnyH_take (i := 8) (oi := { dst := some 59, op := Op.indexAddr 35 (Operand.tmp 57) (Operand.tmp 58), type := 0, pos := "law.go:54", after := #[{ on := 6, ground := Ground.data }, { on := 7, ground := Ground.data }], guard := none }) (v := ?_) rfl (by kernel_rfl) (by kernel_rfl) (by kernel_rfl) (fun _ _ _ h => h) (Or.inl ⟨by rfl, ?_⟩) (by assumption) ?_
          rotate_left
          · (intro w0 hSw; (try dsimp only at hSw); go_split_ands; go_simp; with_reducible rfl)
          try simp only [Act.put, List.setIfInBounds_toArray, List.set_cons_zero, List.set_cons_succ]
          refine wpAnyH_take (i := 9) (oi := { dst := some 60, op := Op.load 3 (Operand.tmp 59), type := 3, pos := "law.go:54", after := #[{ on := 8, ground := Ground.data }], guard := none }) (v := ?_) rfl (by kernel_rfl) (by kernel_rfl) (by kernel_rfl) (fun _ _ _ h => h) (Or.inl ⟨by rfl, ?_⟩) (by assumption) ?_
          rotate_left
          · (intro w0 hSw; (try dsimp only at hSw); go_split_ands; go_simp; with_reducible rfl)
          try simp only [Act.put, List.setIfInBounds_toArray, List.set_cons_zero, List.set_cons_succ]
          refine wpAnyH_ready (rs := [0, 10]) (by kernel_rfl) (by simp) ?_
          refine AllReadyH.cons (o := { dst := some 51, op := Op.load 25 (Operand.tmp 11), type := 25, pos := "law.go:54", after := #[], guard := none }) rfl (fun K hK => ?_) (AllReadyH.cons (o := { dst := some 61, op := Op.call { callee := Callee.value (Operand.func 11), args := #[Operand.tmp 56, Operand.tmp 60], argTypes := #[25, 3] }, type := 22, pos := "law.go:54", after := #[{ on := 5, ground := Ground.data }, { on := 9, ground := Ground.data }], guard := none }) rfl (fun K hK => ?_) AllReadyH.nil)
          · go_simp
            refine hK.out _ _ ⟨hR, hc⟩ (fun hHeld => ?_)
            clear hK K
            try simp only [Act.put, List.setIfInBounds_toArray, List.set_cons_zero, List.set_cons_succ]
            refine wpAnyH_ready (rs := [10]) (by kernel_rfl) (by simp) ?_
            refine AllReadyH.cons (o := { dst := some 61, op := Op.call { callee := Callee.value (Operand.func 11), args := #[Operand.tmp 56, Operand.tmp 60], argTypes := #[25, 3] }, type := 22, pos := "law.go:54", after := #[{ on := 5, ground := Ground.data }, { on := 9, ground := Ground.data }], guard := none }) rfl (fun K hK => ?_) AllReadyH.nil
            go_simp
            go_at_call 11
            refine (get11 r x _).mono ?_
            rintro e wa ⟨rfl, hba⟩
            have hRa : rowAt wa (w.heap.size + 1) = some r.arr := rowAt_below hR hba rfl
            have hMa : rowAt wa mb = some M.arr := rowAt_below hM hba rfl
            have hca : wa.cell? ⟨g, k, none⟩ = some (.int .i64 x) := (hba.cell (p := ⟨g, k, none⟩) hgl).trans hc
            have HSa := Lib.hid (HS.out.below' hba rfl)
            have HBa := Lib.hid (below_step HB.out hba rfl rfl rfl rfl)
            clear hba
            refine hK.out _ _ ⟨hRa, hca⟩ (fun hHeld => ?_)
            clear hK K
            try simp only [Act.put, List.setIfInBounds_toArray, List.set_cons_zero, List.set_cons_succ]
            have hga : g < wa.heap.size := by have := rowAt_lt hMa; omega
            refine wpAnyH_ready (rs := [11]) (by kernel_rfl) (by simp) ?_
            refine AllReadyH.cons (o := { dst := some 62, op := Op.call { callee := Callee.value (Operand.func 13), args := #[Operand.tmp 51, Operand.tmp 55, Operand.tmp 61], argTypes := #[25, 3, 22] }, type := 25, pos := "law.go:54", after := #[{ on := 0, ground := Ground.data }, { on := 4, ground := Ground.data }, { on := 10, ground := Ground.data }, { on := 10, ground := Ground.chain }], guard := none }) rfl (fun K hK => ?_) AllReadyH.nil
            go_simp
            go_at_call 13
            refine (set13 M x _ _).mono ?_
            rintro e wb ⟨rfl, hbb⟩
            have hRb : rowAt wb (w.heap.size + 1) = some r.arr := rowAt_below hRa hbb rfl
            have hMb : rowAt wb mb = some M.arr := rowAt_below hMa hbb rfl
            have hcb : wb.cell? ⟨g, k, none⟩ = some (.int .i64 x) := (hbb.cell (p := ⟨g, k, none⟩) hga).trans hca
            have HSb := Lib.hid (HSa.out.below' hbb rfl)
            have HBb := Lib.hid (below_step HBa.out hbb rfl rfl rfl rfl)
            have hgb : g < wb.heap.size := by have := rowAt_lt hMb; omega
            clear hbb
            refine hK.out _ _ ⟨hRb, hcb⟩ (fun hHeld => ?_)
            clear hK K
            try simp only [Act.put, List.setIfInBounds_toArray, List.set_cons_zero, List.set_cons_succ]
            refine wpAnyH_ready (rs := [12]) (by kernel_rfl) (by simp) ?_
            refine AllReadyH.cons (o := { dst := none, op := Op.store 25 (Operand.tmp 11) (Operand.tmp 62), type := 0, pos := "law.go:54", after := #[{ on := 11, ground := Ground.data }, { on := 11, ground := Ground.chain }, { on := 0, ground := Ground.phase }, { on := 1, ground := Ground.phase }, { on := 2, ground := Ground.phase }, { on := 3, ground := Ground.phase }, { on := 4, ground := Ground.phase }, { on := 5, ground := Ground.phase }, { on := 6, ground := Ground.phase }, { on := 7, ground := Ground.phase }, { on := 8, ground := Ground.phase }, { on := 9, ground := Ground.phase }, { on := 10, ground := Ground.phase }, { on := 11, ground := Ground.phase }], guard := none }) rfl (fun K hK => ?_) AllReadyH.nil
            go_simp
            have hRc : rowAt (wb.setCells mb 0 (M.set x (r.get x)).arr.toList) (w.heap.size + 1) = some r.arr := setCells_far hRb (by omega) _ _
            have hcc : (wb.setCells mb 0 (M.set x (r.get x)).arr.toList).cell? ⟨g, k, none⟩ = some (.int .i64 x) := ((setCells_grown _ _ wb mb).cell_far ⟨g, k, none⟩ hgb (fun e => by injection e with e; have e : g = mb := e; omega)).trans hcb
            refine hK.out _ _ ⟨hRc, hcc⟩ (fun hHeld => ?_)
            clear hK K
            try simp only [Act.put, List.setIfInBounds_toArray, List.set_cons_zero, List.set_cons_succ]
            refine wpAnyH_done (by kernel_rfl) ?_ _
            have HX : Hid (St w.heap.size o d n m a c i r (M.set x (r.get x)) (.slice (some ⟨g, 0, none⟩) L cap) vt I T mb (wb.setCells mb 0 (M.set x (r.get x)).arr.toList)) := Lib.hid (HSb.out.store (setCells_grown _ _ _ _) (st_row0 hMb))
            have HY : Hid (Below w.heap.size w (wb.setCells mb 0 (M.set x (r.get x)).arr.toList)) := Lib.hid (grown_below HBb.out (setCells_grown _ _ _ _) (by omega))
            clear hr1 hm1 hst hR hM hG hRa hMa hca HSa HBa hRb hMb HSb HBb hRc hcc hcb hHeld
            generalize wb.setCells mb 0 (M.set x (r.get x)).arr.toList = w8 at HX HY ⊢
            go_wp2
            go_roundw
            case rel => exact ⟨k + 1, by omega, by go_num, by rw [HT.out, HM.out]; exact HX.out, HY.out⟩
            case measure => simp [intOf]; omega
          · go_simp
            go_at_call 11
            refine (get11 r x _).mono ?_
            rintro e wa ⟨rfl, hba⟩
            have hRa : rowAt wa (w.heap.size + 1) = some r.arr := rowAt_below hR hba rfl
            have hMa : rowAt wa mb = some M.arr := rowAt_below hM hba rfl
            have hca : wa.cell? ⟨g, k, none⟩ = some (.int .i64 x) := (hba.cell (p := ⟨g, k, none⟩) hgl).trans hc
            have HSa := Lib.hid (HS.out.below' hba rfl)
            have HBa := Lib.hid (below_step HB.out hba rfl rfl rfl rfl)
            clear hba
            refine hK.out _ _ ⟨hRa, hca⟩ (fun hHeld => ?_)
            clear hK K
            try simp only [Act.put, List.setIfInBounds_toArray, List.set_cons_zero, List.set_cons_succ]
            have hga : g < wa.heap.size := by have := rowAt_lt hMa; omega
            refine wpAnyH_ready (rs := [0]) (by kernel_rfl) (by simp) ?_
            refine AllReadyH.cons (o := { dst := some 51, op := Op.load 25 (Operand.tmp 11), type := 25, pos := "law.go:54", after := #[], guard := none }) rfl (fun K hK => ?_) AllReadyH.nil
            go_simp
            refine hK.out _ _ ⟨hRa, hca⟩ (fun hHeld => ?_)
            clear hK K
            try simp only [Act.put, List.setIfInBounds_toArray, List.set_cons_zero, List.set_cons_succ]
            refine wpAnyH_ready (rs := [11]) (by kernel_rfl) (by simp) ?_
            refine AllReadyH.cons (o := { dst := some 62, op := Op.call { callee := Callee.value (Operand.func 13), args := #[Operand.tmp 51, Operand.tmp 55, Operand.tmp 61], argTypes := #[25, 3, 22] }, type := 25, pos := "law.go:54", after := #[{ on := 0, ground := Ground.data }, { on := 4, ground := Ground.data }, { on := 10, ground := Ground.data }, { on := 10, ground := Ground.chain }], guard := none }) rfl (fun K hK => ?_) AllReadyH.nil
            go_simp
            go_at_call 13
            refine (set13 M x _ _).mono ?_
            rintro e wb ⟨rfl, hbb⟩
            have hRb : rowAt wb (w.heap.size + 1) = some r.arr := rowAt_below hRa hbb rfl
            have hMb : rowAt wb mb = some M.arr := rowAt_below hMa hbb rfl
            have hcb : wb.cell? ⟨g, k, none⟩ = some (.int .i64 x) := (hbb.cell (p := ⟨g, k, none⟩) hga).trans hca
            have HSb := Lib.hid (HSa.out.below' hbb rfl)
            have HBb := Lib.hid (below_step HBa.out hbb rfl rfl rfl rfl)
            have hgb : g < wb.heap.size := by have := rowAt_lt hMb; omega
            clear hbb
            refine hK.out _ _ ⟨hRb, hcb⟩ (fun hHeld => ?_)
            clear hK K
            try simp only [Act.put, List.setIfInBounds_toArray, List.set_cons_zero, List.set_cons_succ]
            refine wpAnyH_ready (rs := [12]) (by kernel_rfl) (by simp) ?_
            refine AllReadyH.cons (o := { dst := none, op := Op.store 25 (Operand.tmp 11) (Operand.tmp 62), type := 0, pos := "law.go:54", after := #[{ on := 11, ground := Ground.data }, { on := 11, ground := Ground.chain }, { on := 0, ground := Ground.phase }, { on := 1, ground := Ground.phase }, { on := 2, ground := Ground.phase }, { on := 3, ground := Ground.phase }, { on := 4, ground := Ground.phase }, { on := 5, ground := Ground.phase }, { on := 6, ground := Ground.phase }, { on := 7, ground := Ground.phase }, { on := 8, ground := Ground.phase }, { on := 9, ground := Ground.phase }, { on := 10, ground := Ground.phase }, { on := 11, ground := Ground.phase }], guard := none }) rfl (fun K hK => ?_) AllReadyH.nil
            go_simp
            have hRc : rowAt (wb.setCells mb 0 (M.set x (r.get x)).arr.toList) (w.heap.size + 1) = some r.arr := setCells_far hRb (by omega) _ _
            have hcc : (wb.setCells mb 0 (M.set x (r.get x)).arr.toList).cell? ⟨g, k, none⟩ = some (.int .i64 x) := ((setCells_grown _ _ wb mb).cell_far ⟨g, k, none⟩ hgb (fun e => by injection e with e; have e : g = mb := e; omega)).trans hcb
            refine hK.out _ _ ⟨hRc, hcc⟩ (fun hHeld => ?_)
            clear hK K
            try simp only [Act.put, List.setIfInBounds_toArray, List.set_cons_zero, List.set_cons_succ]
            refine wpAnyH_done (by kernel_rfl) ?_ _
            have HX : Hid (St w.heap.size o d n m a c i r (M.set x (r.get x)) (.slice (some ⟨g, 0, none⟩) L cap) vt I T mb (wb.setCells mb 0 (M.set x (r.get x)).arr.toList)) := Lib.hid (HSb.out.store (setCells_grown _ _ _ _) (st_row0 hMb))
            have HY : Hid (Below w.heap.size w (wb.setCells mb 0 (M.set x (r.get x)).arr.toList)) := Lib.hid (grown_below HBb.out (setCells_grown _ _ _ _) (by omega))
            clear hr1 hm1 hst hR hM hG hRa hMa hca HSa HBa hRb hMb HSb HBb hRc hcc hcb hHeld
            generalize wb.setCells mb 0 (M.set x (r.get x)).arr.toList = w8 at HX HY ⊢
            go_wp2
            go_roundw
            case rel => exact ⟨k + 1, by omega, by go_num, by rw [HT.out, HM.out]; exact HX.out, HY.out⟩
            case measure => simp [intOf]; omega
      · have S6 : Hid (St w.heap.size o d n m a c i r (mrg (puts I) r q) (.slice (some ⟨g, 0, none⟩) L cap) vt I T mb wr) := Lib.hid (by have h := HS.out; rw [List.take_of_length_le (by rw [HL.out]; omega)] at h; exact h)
        have B6 := HB
        clear HS HB S5 B5
        obtain ⟨hl, i0, i1, i2, i3, i4, i5, i6⟩ := S6.out.ins
        go_wp2_with (first | (refine wpl_load rfl 25 _ rfl (w.heap.size + 1) 0 rfl r.arr (reg_all S6.out.reg) ?_))
        obtain ⟨ra, rb, nx, ad, da, to, hd1, hd2, hF⟩ := HFR.out
        have HD2 := Lib.hid hd2
        have HF := Lib.hid hF
        clear hd2 hF
        refine (hd1 _).mono ?_
        clear hd1
        rintro e w7 ⟨rfl, hb⟩
        have S7 := Lib.hid (S6.out.below hb)
        have B7 := Lib.hid (B6.out.trans (hb.mono B6.out.size))
        clear hb S6 B6 hl i0 i1 i2 i3 i4 i5 i6
        have Z7 : Hid (rowAt (w7.alloc (.cells z40 38)) w7.heap.size = some z40) := Lib.hid (rowAt_new w7 z40 38)
        have m7 := rowAt_lt S7.out.mm
        have S7' := Lib.hid (S7.out.below ((Below.refl _ _).alloc (Nat.le_refl _) (.cells z40 38)))
        have B7' := Lib.hid (B7.out.alloc B7.out.size (.cells z40 38))
        go_wp2_with (first | (refine wpl_load rfl 25 _ rfl mb 0 rfl _ (reg_all S8.out.mm) ?_) | (refine wpl_store rfl 38 _ _ rfl w7.heap.size (efA ra nx ad da to) z40 rfl rfl Z7.out (by rw [efA_size]; exact info38) (by rw [efA_size]; rfl) (efA_one _ _ _ _ _) ?_; intro w8 hrow8 hg8; have A8 := Lib.hid hrow8; have S8 := Lib.hid (S7'.out.far hg8 (by omega)); have B8 := Lib.hid (grown_below B7'.out hg8 B7.out.size); clear hrow8 hg8; obtain ⟨hl, i0, i1, i2, i3, i4, i5, i6⟩ := S8.out.ins))
        refine (HD2.out _).mono ?_
        clear HD2
        rintro e w9 ⟨rfl, hb⟩
        have S9 := Lib.hid (S8.out.below hb)
        have B9 := Lib.hid (B8.out.trans (hb.mono B8.out.size))
        have A9 := Lib.hid (rowAt_below A8.out hb rfl)
        clear hb S8 B8 A8 hl i0 i1 i2 i3 i4 i5 i6 Z7 S7 B7 S7' B7'
        obtain ⟨A, hA⟩ : ∃ A, A = w7.heap.size := ⟨_, rfl⟩
        rw [← hA] at A9 m7 ⊢
        clear hA
        have a9 := rowAt_lt A9.out
        have Z9 : Hid (rowAt (w9.alloc (.cells z40 38)) w9.heap.size = some z40) := Lib.hid (rowAt_new w9 z40 38)
        have S9' := Lib.hid (S9.out.below ((Below.refl _ _).alloc (Nat.le_refl _) (.cells z40 38)))
        have B9' := Lib.hid (B9.out.alloc B9.out.size (.cells z40 38))
        have A9' := Lib.hid (rowAt_past A9.out (.cells z40 38))
        obtain ⟨C, hC⟩ : ∃ C, C = w9.heap.size := ⟨_, rfl⟩
        have HC9 := Lib.hid hC
        have hac : A < C := by rw [hC]; exact a9
        clear hC
        have HTC : Hid (tchB o = (ldB o || (o == 36))) := Lib.hid rfl
        generalize tchB o = tb at HF HTC
        cases hld : ldB o <;> cases hoe : (o == 36)
        all_goals
          have HLD := Lib.hid hld
          rw [hld, hoe] at HTC
          clear hld
          have htb := HTC.out
          simp at htb
          subst htb
          clear HTC
          go_wp2_with (first | (refine wpl_store rfl 38 _ _ rfl w9.heap.size (efA rb nx ad da to) z40 rfl rfl Z9.out (by rw [efA_size]; exact info38) (by rw [efA_size]; rfl) (efA_one _ _ _ _ _) ?_; intro w8 hrow8 hg8; have C8 := Lib.hid hrow8; have S8 := Lib.hid (S9'.out.far hg8 (by omega)); have A8 := Lib.hid (rowAt_grown A9'.out hg8 (by omega)); have B8 := Lib.hid (grown_below B9'.out hg8 B9.out.size); clear hrow8 hg8; have a36 := (rowAt_cell A8.out 36).trans (efA_36 _ _ _ _ _); have a37 := (rowAt_cell A8.out 37).trans (efA_37 _ _ _ _ _); have a38 := (rowAt_cell A8.out 38).trans (efA_38 _ _ _ _ _); have a39 := (rowAt_cell A8.out 39).trans (efA_39 _ _ _ _ _); have b36 := (rowAt_cell C8.out 36).trans (efA_36 _ _ _ _ _); have b37 := (rowAt_cell C8.out 37).trans (efA_37 _ _ _ _ _); have b38 := (rowAt_cell C8.out 38).trans (efA_38 _ _ _ _ _); have b39 := (rowAt_cell C8.out 39).trans (efA_39 _ _ _ _ _); have i0 := S8.out.ins.2.1) | (go_at_call 21; refine (load_o _ _ HLD _).mono ?_; rintro e w' ⟨rfl, rfl⟩))
          have hreg := Lib.hid S8.out.reg
          have hlst := Lib.hid S8.out.out
          have hmb := rowAt_lt S8.out.mm
          rw [← HC9.out] at C8 ⊢
          clear a36 a37 a38 a39 b36 b37 b38 b39 i0 hoe S9' B9' A9' Z9 S9 B9 A9 HLD
          go_loopw [16, 17] (fun j u wr => ∃ k : Nat, k ≤ 33 ∧ j = .int .i64 k ∧ rowAt wr A = some (efA ra nx ad da to) ∧ rowAt wr C = some (efA rb nx ad da to) ∧ rowAt wr (w.heap.size + 1) = some r.arr ∧ LstB mb wr vt (puts T) ∧ mb ≤ wr.heap.size ∧ Below w.heap.size w wr) (fun j _ _ => 33 - (intOf j).toNat)
          case atStart => exact ⟨0, by omega, rfl, A8.out, C8.out, hreg.out, hlst.out, by omega, B8.out⟩
          case round =>
            as_aux_lemma =>
             obtain ⟨k, hk, rfl, hA, hCc, hR, hLs, hmb', hB⟩ := hrel
             have HB := Lib.hid hB
             have HLs := Lib.hid hLs
             clear hB hLs A8 B8 C8 hreg hlst S8 hmb
             by_cases hlt : k < 33
             · have lT6 : (puts T).length ≤ 6 := Nat.le_trans (puts_length T) lT
               have HL := Lib.hid (HLs.out.lst hmb')
               have la : ∀ w', rowAt w' A = some (efA ra nx ad da to) → (ldAt 25 (.pointer (some ⟨A, 0, none⟩))).run Try.prog w' = .ok (.agg ra.arr) w' := fun w' h => ef_regs h
               have lc : ∀ w', rowAt w' C = some (efA rb nx ad da to) → (ldAt 25 (.pointer (some ⟨C, 0, none⟩))).run Try.prog w' = .ok (.agg rb.arr) w' := fun w' h => ef_regs h
               have lr : ∀ w', rowAt w' (w.heap.size + 1) = some r.arr → (ldAt 25 (.pointer (some ⟨w.heap.size + 1, 0, none⟩))).run Try.prog w' = .ok (.agg r.arr) w' := fun w' h => reg_all h
               cases hh : hasB (puts T) k
               all_goals
                 have HH := Lib.hid hh
                 clear hh
                 first
                 | (have hE : (ra.get k != r.get k) = false := by
                      have h := HF.out.kept k (by omega) (by omega) (by first | exact .inr rfl | exact .inl (of_decide_eq_false HH.out))
                      simp [h])
                 | (have hE : (ra.get k != rb.get k) = false := by
                      have h := HF.out.wrote rfl k (by omega) (by omega) (of_decide_eq_true HH.out)
                      simp [h])
                 generalize hEa : efA ra nx ad da to = Ea at *
                 generalize hEb : efA rb nx ad da to = Eb at *
                 have HEa := Lib.hid hEa
                 have HEb := Lib.hid hEb
                 clear hEa hEb
                 go_wp2_with (go_at_call 22; refine (has_b HL.out lT6 HH _).mono ?_; rintro e w' ⟨rfl, rfl⟩)
                 first
                 | (
                   refine wp_region_held_drew (S := (fun w' => rowAt w' A = some Ea ∧ rowAt w' C = some Eb ∧ rowAt w' (w.heap.size + 1) = some r.arr)) (by kernel_rfl) ⟨hA, hCc, hR⟩ (fun hHeld => ?_)
                   refine wpAnyH_take (i := 0) (oi := { dst := some 116, op := Op.move (Operand.tmp 17), type := 4, pos := "law.go:65", after := #[], guard := none }) (v := ?_) rfl (by kernel_rfl) (by kernel_rfl) (by kernel_rfl) (fun _ _ _ h => h) (Or.inl ⟨by rfl, ?_⟩) (by assumption) ?_
                   rotate_left
                   · (intro w0 hSw; (try dsimp only at hSw); go_split_ands; go_simp; with_reducible rfl)
                   try simp only [Act.put, List.setIfInBounds_toArray, List.set_cons_zero, List.set_cons_succ]
                   refine wpAnyH_take (i := 1) (oi := { dst := some 117, op := Op.unOp UnOp.not 4 (Operand.tmp 116), type := 4, pos := "law.go:65", after := #[{ on := 0, ground := Ground.data }], guard := none }) (v := ?_) rfl (by kernel_rfl) (by kernel_rfl) (by kernel_rfl) (fun _ _ _ h => h) (Or.inl ⟨by rfl, ?_⟩) (by assumption) ?_
                   rotate_left
                   · (intro w0 hSw; (try dsimp only at hSw); go_split_ands; go_simp; with_reducible rfl)
                   try simp only [Act.put, List.setIfInBounds_toArray, List.set_cons_zero, List.set_cons_succ]
                   refine wpAnyH_take (i := 2) (oi := { dst := some 118, op := Op.move (Operand.tmp 117), type := 4, pos := "law.go:65", after := #[{ on := 1, ground := Ground.data }], guard := none }) (v := ?_) rfl (by kernel_rfl) (by kernel_rfl) (by kernel_rfl) (fun _ _ _ h => h) (Or.inl ⟨by rfl, ?_⟩) (by assumption) ?_
                   rotate_left
                   · (intro w0 hSw; (try dsimp only at hSw); go_split_ands; go_simp; with_reducible rfl)
                   try simp only [Act.put, List.setIfInBounds_toArray, List.set_cons_zero, List.set_cons_succ]
                   refine wpAnyH_take (i := 3) (oi := { dst := some 119, op := Op.fieldAddr 38 (Operand.tmp 13) 0, type := 0, pos := "law.go:65", after := #[{ on := 2, ground := Ground.guard }], guard := some (2, true) }) (v := ?_) rfl (by kernel_rfl) (by kernel_rfl) (by kernel_rfl) (fun _ _ _ h => h) (Or.inl ⟨by rfl, ?_⟩) (by assumption) ?_
                   rotate_left
                   · (intro w0 hSw; (try dsimp only at hSw); go_split_ands; go_simp; with_reducible rfl)
                   try simp only [Act.put, List.setIfInBounds_toArray, List.set_cons_zero, List.set_cons_succ]
                   refine wpAnyH_take (i := 4) (oi := { dst := some 120, op := Op.load 25 (Operand.tmp 119), type := 25, pos := "law.go:65", after := #[{ on := 3, ground := Ground.data }, { on := 2, ground := Ground.guard }], guard := some (2, true) }) (v := ?_) rfl (by kernel_rfl) (by kernel_rfl) (by kernel_rfl) (fun _ _ _ h => h) (Or.inl ⟨by rfl, ?_⟩) (by assumption) ?_
                   rotate_left
                   · (intro w0 hSw; (try dsimp only at hSw); go_split_ands; go_simp; with_reducible rfl)
                   try simp only [Act.put, List.setIfInBounds_toArray, List.set_cons_zero, List.set_cons_succ]
                   refine wpAnyH_take (i := 5) (oi := { dst := some 121, op := Op.move (Operand.tmp 16), type := 3, pos := "law.go:65", after := #[{ on := 2, ground := Ground.guard }], guard := some (2, true) }) (v := ?_) rfl (by kernel_rfl) (by kernel_rfl) (by kernel_rfl) (fun _ _ _ h => h) (Or.inl ⟨by rfl, ?_⟩) (by assumption) ?_
                   rotate_left
                   · (intro w0 hSw; (try dsimp only at hSw); go_split_ands; go_simp; with_reducible rfl)
                   try simp only [Act.put, List.setIfInBounds_toArray, List.set_cons_zero, List.set_cons_succ]
                   refine wpAnyH_take (i := 7) (oi := { dst := some 123, op := Op.load 25 (Operand.tmp 6), type := 25, pos := "law.go:65", after := #[{ on := 2, ground := Ground.guard }], guard := some (2, true) }) (v := ?_) rfl (by kernel_rfl) (by kernel_rfl) (by kernel_rfl) (fun _ _ _ h => h) (Or.inl ⟨by rfl, ?_⟩) (by assumption) ?_
                   rotate_left
                   · (intro w0 hSw; (try dsimp only at hSw); go_split_ands; go_simp; with_reducible rfl)
                   try simp only [Act.put, List.setIfInBounds_toArray, List.set_cons_zero, List.set_cons_succ]
                   refine wpAnyH_take (i := 8) (oi := { dst := some 124, op := Op.move (Operand.tmp 16), type := 3, pos := "law.go:65", after := #[{ on := 2, ground := Ground.guard }], guard := some (2, true) }) (v := ?_) rfl (by kernel_rfl) (by kernel_rfl) (by kernel_rfl) (fun _ _ _ h => h) (Or.inl ⟨by rfl, ?_⟩) (by assumption) ?_
                   rotate_left
                   · (intro w0 hSw; (try dsimp only at hSw); go_split_ands; go_simp; with_reducible rfl)
                   try simp only [Act.put, List.setIfInBounds_toArray, List.set_cons_zero, List.set_cons_succ]
                   refine wpAnyH_ready (rs := [6]) (by kernel_rfl) (by simp) ?_
                   refine AllReadyH.cons (o := { dst := some 122, op := Op.call { callee := Callee.value (Operand.func 11), args := #[Operand.tmp 120, Operand.tmp 121], argTypes := #[25, 3] }, type := 22, pos := "law.go:65", after := #[{ on := 4, ground := Ground.data }, { on := 5, ground := Ground.data }, { on := 2, ground := Ground.chain }, { on := 2, ground := Ground.guard }], guard := some (2, true) }) rfl (fun K hK => ?_) AllReadyH.nil
                   go_simp
                   go_at_call 11
                   refine (get11 ra k _).mono ?_
                   rintro e wa ⟨rfl, hba⟩
                   have hAa : rowAt wa A = some Ea := rowAt_below hA hba rfl
                   have hCa : rowAt wa C = some Eb := rowAt_below hCc hba rfl
                   have hRa : rowAt wa (w.heap.size + 1) = some r.arr := rowAt_below hR hba rfl
                   have HBa := Lib.hid (below_step HB.out hba rfl rfl rfl rfl)
                   have HLa := Lib.hid (HLs.out.below hba rfl hmb')
                   clear hba
                   refine hK.out _ _ ⟨hAa, hCa, hRa⟩ (fun hHeld => ?_)
                   clear hK K
                   try simp only [Act.put, List.setIfInBounds_toArray, List.set_cons_zero, List.set_cons_succ]
                   refine wpAnyH_ready (rs := [9]) (by kernel_rfl) (by simp) ?_
                   refine AllReadyH.cons (o := { dst := some 125, op := Op.call { callee := Callee.value (Operand.func 11), args := #[Operand.tmp 123, Operand.tmp 124], argTypes := #[25, 3] }, type := 22, pos := "law.go:65", after := #[{ on := 7, ground := Ground.data }, { on := 8, ground := Ground.data }, { on := 6, ground := Ground.chain }, { on := 2, ground := Ground.guard }], guard := some (2, true) }) rfl (fun K hK => ?_) AllReadyH.nil
                   go_simp
                   go_at_call 11
                   refine (get11 r k _).mono ?_
                   rintro e wb ⟨rfl, hbb⟩
                   have hAb : rowAt wb A = some Ea := rowAt_below hAa hbb rfl
                   have hCb : rowAt wb C = some Eb := rowAt_below hCa hbb rfl
                   have hRb : rowAt wb (w.heap.size + 1) = some r.arr := rowAt_below hRa hbb rfl
                   have HBb := Lib.hid (below_step HBa.out hbb rfl rfl rfl rfl)
                   have HLb := Lib.hid (HLa.out.below hbb rfl (by have := rowAt_lt hAa; omega))
                   clear hbb
                   refine hK.out _ _ ⟨hAb, hCb, hRb⟩ (fun hHeld => ?_)
                   clear hK K
                   try simp only [Act.put, List.setIfInBounds_toArray, List.set_cons_zero, List.set_cons_succ]
                   refine wpAnyH_take (i := 10) (oi := { dst := some 126, op := Op.binOp BinOp.neq 22 (Operand.tmp 122) (Operand.tmp 125) 22, type := 4, pos := "law.go:65", after := #[{ on := 6, ground := Ground.data }, { on := 9, ground := Ground.data }, { on := 2, ground := Ground.guard }], guard := some (2, true) }) (v := ?_) rfl (by kernel_rfl) (by kernel_rfl) (by kernel_rfl) (fun _ _ _ h => h) (Or.inl ⟨by rfl, ?_⟩) (by assumption) ?_
                   rotate_left
                   · (intro w0 hSw; (try dsimp only at hSw); go_split_ands; go_simp; with_reducible rfl)
                   try simp only [Act.put, List.setIfInBounds_toArray, List.set_cons_zero, List.set_cons_succ]
                   refine wpAnyH_take (i := 11) (oi := { dst := some 127, op := Op.pick (Operand.tmp 118) (Operand.tmp 126) (Operand.const (Value.bool false)), type := 4, pos := "law.go:65", after := #[{ on := 2, ground := Ground.data }, { on := 10, ground := Ground.data }], guard := none }) (v := ?_) rfl (by kernel_rfl) (by kernel_rfl) (by kernel_rfl) (fun _ _ _ h => h) (Or.inl ⟨by rfl, ?_⟩) (by assumption) ?_
                   rotate_left
                   · (intro w0 hSw; (try dsimp only at hSw); go_split_ands; go_simp; with_reducible rfl)
                   try simp only [Act.put, List.setIfInBounds_toArray, List.set_cons_zero, List.set_cons_succ]
                   refine wpAnyH_take (i := 12) (oi := { dst := some 128, op := Op.move (Operand.tmp 127), type := 4, pos := "law.go:65", after := #[{ on := 11, ground := Ground.data }, { on := 9, ground := Ground.chain }], guard := none }) (v := ?_) rfl (by kernel_rfl) (by kernel_rfl) (by kernel_rfl) (fun _ _ _ h => h) (Or.inl ⟨by rfl, ?_⟩) (by assumption) ?_
                   rotate_left
                   · (intro w0 hSw; (try dsimp only at hSw); go_split_ands; go_simp; with_reducible rfl)
                   try simp only [Act.put, List.setIfInBounds_toArray, List.set_cons_zero, List.set_cons_succ]
                   refine wpAnyH_take (i := 13) (oi := { dst := some 129, op := Op.move (Operand.tmp 17), type := 4, pos := "law.go:65", after := #[{ on := 12, ground := Ground.guard }], guard := some (12, false) }) (v := ?_) rfl (by kernel_rfl) (by kernel_rfl) (by kernel_rfl) (fun _ _ _ h => h) (Or.inl ⟨by rfl, ?_⟩) (by assumption) ?_
                   rotate_left
                   · (intro w0 hSw; (try dsimp only at hSw); go_split_ands; go_simp; with_reducible rfl)
                   try simp only [Act.put, List.setIfInBounds_toArray, List.set_cons_zero, List.set_cons_succ]
                   refine wpAnyH_take (i := 14) (oi := { dst := some 130, op := Op.move (Operand.tmp 129), type := 4, pos := "law.go:65", after := #[{ on := 13, ground := Ground.data }, { on := 12, ground := Ground.chain }, { on := 12, ground := Ground.guard }], guard := some (12, false) }) (v := ?_) rfl (by kernel_rfl) (by kernel_rfl) (by kernel_rfl) (fun _ _ _ h => h) (Or.inl ⟨by rfl, ?_⟩) (by assumption) ?_
                   rotate_left
                   · (intro w0 hSw; (try dsimp only at hSw); go_split_ands; go_simp; with_reducible rfl)
                   try simp only [Act.put, List.setIfInBounds_toArray, List.set_cons_zero, List.set_cons_succ]
                   refine wpAnyH_take (i := 15) (oi := { dst := some 131, op := Op.fieldAddr 38 (Operand.tmp 13) 0, type := 0, pos := "law.go:65", after := #[{ on := 14, ground := Ground.guard }], guard := some (14, true) }) (v := undef) rfl (by kernel_rfl) (by kernel_rfl) (by kernel_rfl) (fun _ _ _ h => h) (Or.inr ⟨by rfl, rfl⟩) (by assumption) ?_
                   try simp only [Act.put, List.setIfInBounds_toArray, List.set_cons_zero, List.set_cons_succ]
                   refine wpAnyH_take (i := 16) (oi := { dst := some 132, op := Op.load 25 (Operand.tmp 131), type := 25, pos := "law.go:65", after := #[{ on := 15, ground := Ground.data }, { on := 14, ground := Ground.guard }], guard := some (14, true) }) (v := undef) rfl (by kernel_rfl) (by kernel_rfl) (by kernel_rfl) (fun _ _ _ h => h) (Or.inr ⟨by rfl, rfl⟩) (by assumption) ?_
                   try simp only [Act.put, List.setIfInBounds_toArray, List.set_cons_zero, List.set_cons_succ]
                   refine wpAnyH_take (i := 17) (oi := { dst := some 133, op := Op.move (Operand.tmp 16), type := 3, pos := "law.go:65", after := #[{ on := 14, ground := Ground.guard }], guard := some (14, true) }) (v := undef) rfl (by kernel_rfl) (by kernel_rfl) (by kernel_rfl) (fun _ _ _ h => h) (Or.inr ⟨by rfl, rfl⟩) (by assumption) ?_
                   try simp only [Act.put, List.setIfInBounds_toArray, List.set_cons_zero, List.set_cons_succ]
                   refine wpAnyH_take (i := 18) (oi := { dst := some 134, op := Op.call { callee := Callee.value (Operand.func 11), args := #[Operand.tmp 132, Operand.tmp 133], argTypes := #[25, 3] }, type := 22, pos := "law.go:65", after := #[{ on := 16, ground := Ground.data }, { on := 17, ground := Ground.data }, { on := 14, ground := Ground.chain }, { on := 14, ground := Ground.guard }], guard := some (14, true) }) (v := undef) rfl (by kernel_rfl) (by kernel_rfl) (by kernel_rfl) (fun _ _ _ h => h) (Or.inr ⟨by rfl, rfl⟩) (by assumption) ?_
                   try simp only [Act.put, List.setIfInBounds_toArray, List.set_cons_zero, List.set_cons_succ]
                   refine wpAnyH_take (i := 19) (oi := { dst := some 135, op := Op.fieldAddr 38 (Operand.tmp 14) 0, type := 0, pos := "law.go:65", after := #[{ on := 14, ground := Ground.guard }], guard := some (14, true) }) (v := undef) rfl (by kernel_rfl) (by kernel_rfl) (by kernel_rfl) (fun _ _ _ h => h) (Or.inr ⟨by rfl, rfl⟩) (by assumption) ?_
                   try simp only [Act.put, List.setIfInBounds_toArray, List.set_cons_zero, List.set_cons_succ]
                   refine wpAnyH_take (i := 20) (oi := { dst := some 136, op := Op.load 25 (Operand.tmp 135), type := 25, pos := "law.go:65", after := #[{ on := 19, ground := Ground.data }, { on := 14, ground := Ground.guard }], guard := some (14, true) }) (v := undef) rfl (by kernel_rfl) (by kernel_rfl) (by kernel_rfl) (fun _ _ _ h => h) (Or.inr ⟨by rfl, rfl⟩) (by assumption) ?_
                   try simp only [Act.put, List.setIfInBounds_toArray, List.set_cons_zero, List.set_cons_succ]
                   refine wpAnyH_take (i := 21) (oi := { dst := some 137, op := Op.move (Operand.tmp 16), type := 3, pos := "law.go:65", after := #[{ on := 14, ground := Ground.guard }], guard := some (14, true) }) (v := undef) rfl (by kernel_rfl) (by kernel_rfl) (by kernel_rfl) (fun _ _ _ h => h) (Or.inr ⟨by rfl, rfl⟩) (by assumption) ?_
                   try simp only [Act.put, List.setIfInBounds_toArray, List.set_cons_zero, List.set_cons_succ]
                   refine wpAnyH_take (i := 22) (oi := { dst := some 138, op := Op.call { callee := Callee.value (Operand.func 11), args := #[Operand.tmp 136, Operand.tmp 137], argTypes := #[25, 3] }, type := 22, pos := "law.go:65", after := #[{ on := 20, ground := Ground.data }, { on := 21, ground := Ground.data }, { on := 18, ground := Ground.chain }, { on := 14, ground := Ground.guard }], guard := some (14, true) }) (v := undef) rfl (by kernel_rfl) (by kernel_rfl) (by kernel_rfl) (fun _ _ _ h => h) (Or.inr ⟨by rfl, rfl⟩) (by assumption) ?_
                   try simp only [Act.put, List.setIfInBounds_toArray, List.set_cons_zero, List.set_cons_succ]
                   refine wpAnyH_take (i := 23) (oi := { dst := some 139, op := Op.binOp BinOp.neq 22 (Operand.tmp 134) (Operand.tmp 138) 22, type := 4, pos := "law.go:65", after := #[{ on := 18, ground := Ground.data }, { on := 22, ground := Ground.data }, { on := 14, ground := Ground.guard }], guard := some (14, true) }) (v := undef) rfl (by kernel_rfl) (by kernel_rfl) (by kernel_rfl) (fun _ _ _ h => h) (Or.inr ⟨by rfl, rfl⟩) (by assumption) ?_
                   try simp only [Act.put, List.setIfInBounds_toArray, List.set_cons_zero, List.set_cons_succ]
                   refine wpAnyH_take (i := 24) (oi := { dst := some 140, op := Op.pick (Operand.tmp 130) (Operand.tmp 139) (Operand.const (Value.bool false)), type := 4, pos := "law.go:65", after := #[{ on := 14, ground := Ground.data }, { on := 23, ground := Ground.data }, { on := 12, ground := Ground.guard }], guard := some (12, false) }) (v := ?_) rfl (by kernel_rfl) (by kernel_rfl) (by kernel_rfl) (fun _ _ _ h => h) (Or.inl ⟨by rfl, ?_⟩) (by assumption) ?_
                   rotate_left
                   · (intro w0 hSw; (try dsimp only at hSw); go_split_ands; go_simp; with_reducible rfl)
                   try simp only [Act.put, List.setIfInBounds_toArray, List.set_cons_zero, List.set_cons_succ]
                   refine wpAnyH_take (i := 25) (oi := { dst := some 141, op := Op.pick (Operand.tmp 128) (Operand.const (Value.bool true)) (Operand.tmp 140), type := 4, pos := "law.go:65", after := #[{ on := 12, ground := Ground.data }, { on := 24, ground := Ground.data }], guard := none }) (v := ?_) rfl (by kernel_rfl) (by kernel_rfl) (by kernel_rfl) (fun _ _ _ h => h) (Or.inl ⟨by rfl, ?_⟩) (by assumption) ?_
                   rotate_left
                   · (intro w0 hSw; (try dsimp only at hSw); go_split_ands; go_simp; with_reducible rfl)
                   try simp only [Act.put, List.setIfInBounds_toArray, List.set_cons_zero, List.set_cons_succ]
                   refine wpAnyH_done (by kernel_rfl) ?_ _
                   )
                 | (
                   refine wp_region_held_drew (S := (fun w' => rowAt w' A = some Ea ∧ rowAt w' C = some Eb ∧ rowAt w' (w.heap.size + 1) = some r.arr)) (by kernel_rfl) ⟨hA, hCc, hR⟩ (fun hHeld => ?_)
                   refine wpAnyH_take (i := 0) (oi := { dst := some 116, op := Op.move (Operand.tmp 17), type := 4, pos := "law.go:65", after := #[], guard := none }) (v := ?_) rfl (by kernel_rfl) (by kernel_rfl) (by kernel_rfl) (fun _ _ _ h => h) (Or.inl ⟨by rfl, ?_⟩) (by assumption) ?_
                   rotate_left
                   · (intro w0 hSw; (try dsimp only at hSw); go_split_ands; go_simp; with_reducible rfl)
                   try simp only [Act.put, List.setIfInBounds_toArray, List.set_cons_zero, List.set_cons_succ]
                   refine wpAnyH_take (i := 1) (oi := { dst := some 117, op := Op.unOp UnOp.not 4 (Operand.tmp 116), type := 4, pos := "law.go:65", after := #[{ on := 0, ground := Ground.data }], guard := none }) (v := ?_) rfl (by kernel_rfl) (by kernel_rfl) (by kernel_rfl) (fun _ _ _ h => h) (Or.inl ⟨by rfl, ?_⟩) (by assumption) ?_
                   rotate_left
                   · (intro w0 hSw; (try dsimp only at hSw); go_split_ands; go_simp; with_reducible rfl)
                   try simp only [Act.put, List.setIfInBounds_toArray, List.set_cons_zero, List.set_cons_succ]
                   refine wpAnyH_take (i := 2) (oi := { dst := some 118, op := Op.move (Operand.tmp 117), type := 4, pos := "law.go:65", after := #[{ on := 1, ground := Ground.data }], guard := none }) (v := ?_) rfl (by kernel_rfl) (by kernel_rfl) (by kernel_rfl) (fun _ _ _ h => h) (Or.inl ⟨by rfl, ?_⟩) (by assumption) ?_
                   rotate_left
                   · (intro w0 hSw; (try dsimp only at hSw); go_split_ands; go_simp; with_reducible rfl)
                   try simp only [Act.put, List.setIfInBounds_toArray, List.set_cons_zero, List.set_cons_succ]
                   refine wpAnyH_take (i := 3) (oi := { dst := some 119, op := Op.fieldAddr 38 (Operand.tmp 13) 0, type := 0, pos := "law.go:65", after := #[{ on := 2, ground := Ground.guard }], guard := some (2, true) }) (v := undef) rfl (by kernel_rfl) (by kernel_rfl) (by kernel_rfl) (fun _ _ _ h => h) (Or.inr ⟨by rfl, rfl⟩) (by assumption) ?_
                   try simp only [Act.put, List.setIfInBounds_toArray, List.set_cons_zero, List.set_cons_succ]
                   refine wpAnyH_take (i := 4) (oi := { dst := some 120, op := Op.load 25 (Operand.tmp 119), type := 25, pos := "law.go:65", after := #[{ on := 3, ground := Ground.data }, { on := 2, ground := Ground.guard }], guard := some (2, true) }) (v := undef) rfl (by kernel_rfl) (by kernel_rfl) (by kernel_rfl) (fun _ _ _ h => h) (Or.inr ⟨by rfl, rfl⟩) (by assumption) ?_
                   try simp only [Act.put, List.setIfInBounds_toArray, List.set_cons_zero, List.set_cons_succ]
                   refine wpAnyH_take (i := 5) (oi := { dst := some 121, op := Op.move (Operand.tmp 16), type := 3, pos := "law.go:65", after := #[{ on := 2, ground := Ground.guard }], guard := some (2, true) }) (v := undef) rfl (by kernel_rfl) (by kernel_rfl) (by kernel_rfl) (fun _ _ _ h => h) (Or.inr ⟨by rfl, rfl⟩) (by assumption) ?_
                   try simp only [Act.put, List.setIfInBounds_toArray, List.set_cons_zero, List.set_cons_succ]
                   refine wpAnyH_take (i := 6) (oi := { dst := some 122, op := Op.call { callee := Callee.value (Operand.func 11), args := #[Operand.tmp 120, Operand.tmp 121], argTypes := #[25, 3] }, type := 22, pos := "law.go:65", after := #[{ on := 4, ground := Ground.data }, { on := 5, ground := Ground.data }, { on := 2, ground := Ground.chain }, { on := 2, ground := Ground.guard }], guard := some (2, true) }) (v := undef) rfl (by kernel_rfl) (by kernel_rfl) (by kernel_rfl) (fun _ _ _ h => h) (Or.inr ⟨by rfl, rfl⟩) (by assumption) ?_
                   try simp only [Act.put, List.setIfInBounds_toArray, List.set_cons_zero, List.set_cons_succ]
                   refine wpAnyH_take (i := 7) (oi := { dst := some 123, op := Op.load 25 (Operand.tmp 6), type := 25, pos := "law.go:65", after := #[{ on := 2, ground := Ground.guard }], guard := some (2, true) }) (v := undef) rfl (by kernel_rfl) (by kernel_rfl) (by kernel_rfl) (fun _ _ _ h => h) (Or.inr ⟨by rfl, rfl⟩) (by assumption) ?_
                   try simp only [Act.put, List.setIfInBounds_toArray, List.set_cons_zero, List.set_cons_succ]
                   refine wpAnyH_take (i := 8) (oi := { dst := some 124, op := Op.move (Operand.tmp 16), type := 3, pos := "law.go:65", after := #[{ on := 2, ground := Ground.guard }], guard := some (2, true) }) (v := undef) rfl (by kernel_rfl) (by kernel_rfl) (by kernel_rfl) (fun _ _ _ h => h) (Or.inr ⟨by rfl, rfl⟩) (by assumption) ?_
                   try simp only [Act.put, List.setIfInBounds_toArray, List.set_cons_zero, List.set_cons_succ]
                   refine wpAnyH_take (i := 9) (oi := { dst := some 125, op := Op.call { callee := Callee.value (Operand.func 11), args := #[Operand.tmp 123, Operand.tmp 124], argTypes := #[25, 3] }, type := 22, pos := "law.go:65", after := #[{ on := 7, ground := Ground.data }, { on := 8, ground := Ground.data }, { on := 6, ground := Ground.chain }, { on := 2, ground := Ground.guard }], guard := some (2, true) }) (v := undef) rfl (by kernel_rfl) (by kernel_rfl) (by kernel_rfl) (fun _ _ _ h => h) (Or.inr ⟨by rfl, rfl⟩) (by assumption) ?_
                   try simp only [Act.put, List.setIfInBounds_toArray, List.set_cons_zero, List.set_cons_succ]
                   refine wpAnyH_take (i := 10) (oi := { dst := some 126, op := Op.binOp BinOp.neq 22 (Operand.tmp 122) (Operand.tmp 125) 22, type := 4, pos := "law.go:65", after := #[{ on := 6, ground := Ground.data }, { on := 9, ground := Ground.data }, { on := 2, ground := Ground.guard }], guard := some (2, true) }) (v := undef) rfl (by kernel_rfl) (by kernel_rfl) (by kernel_rfl) (fun _ _ _ h => h) (Or.inr ⟨by rfl, rfl⟩) (by assumption) ?_
                   try simp only [Act.put, List.setIfInBounds_toArray, List.set_cons_zero, List.set_cons_succ]
                   refine wpAnyH_take (i := 11) (oi := { dst := some 127, op := Op.pick (Operand.tmp 118) (Operand.tmp 126) (Operand.const (Value.bool false)), type := 4, pos := "law.go:65", after := #[{ on := 2, ground := Ground.data }, { on := 10, ground := Ground.data }], guard := none }) (v := ?_) rfl (by kernel_rfl) (by kernel_rfl) (by kernel_rfl) (fun _ _ _ h => h) (Or.inl ⟨by rfl, ?_⟩) (by assumption) ?_
                   rotate_left
                   · (intro w0 hSw; (try dsimp only at hSw); go_split_ands; go_simp; with_reducible rfl)
                   try simp only [Act.put, List.setIfInBounds_toArray, List.set_cons_zero, List.set_cons_succ]
                   refine wpAnyH_take (i := 12) (oi := { dst := some 128, op := Op.move (Operand.tmp 127), type := 4, pos := "law.go:65", after := #[{ on := 11, ground := Ground.data }, { on := 9, ground := Ground.chain }], guard := none }) (v := ?_) rfl (by kernel_rfl) (by kernel_rfl) (by kernel_rfl) (fun _ _ _ h => h) (Or.inl ⟨by rfl, ?_⟩) (by assumption) ?_
                   rotate_left
                   · (intro w0 hSw; (try dsimp only at hSw); go_split_ands; go_simp; with_reducible rfl)
                   try simp only [Act.put, List.setIfInBounds_toArray, List.set_cons_zero, List.set_cons_succ]
                   refine wpAnyH_take (i := 13) (oi := { dst := some 129, op := Op.move (Operand.tmp 17), type := 4, pos := "law.go:65", after := #[{ on := 12, ground := Ground.guard }], guard := some (12, false) }) (v := ?_) rfl (by kernel_rfl) (by kernel_rfl) (by kernel_rfl) (fun _ _ _ h => h) (Or.inl ⟨by rfl, ?_⟩) (by assumption) ?_
                   rotate_left
                   · (intro w0 hSw; (try dsimp only at hSw); go_split_ands; go_simp; with_reducible rfl)
                   try simp only [Act.put, List.setIfInBounds_toArray, List.set_cons_zero, List.set_cons_succ]
                   refine wpAnyH_take (i := 14) (oi := { dst := some 130, op := Op.move (Operand.tmp 129), type := 4, pos := "law.go:65", after := #[{ on := 13, ground := Ground.data }, { on := 12, ground := Ground.chain }, { on := 12, ground := Ground.guard }], guard := some (12, false) }) (v := ?_) rfl (by kernel_rfl) (by kernel_rfl) (by kernel_rfl) (fun _ _ _ h => h) (Or.inl ⟨by rfl, ?_⟩) (by assumption) ?_
                   rotate_left
                   · (intro w0 hSw; (try dsimp only at hSw); go_split_ands; go_simp; with_reducible rfl)
                   try simp only [Act.put, List.setIfInBounds_toArray, List.set_cons_zero, List.set_cons_succ]
                   refine wpAnyH_take (i := 15) (oi := { dst := some 131, op := Op.fieldAddr 38 (Operand.tmp 13) 0, type := 0, pos := "law.go:65", after := #[{ on := 14, ground := Ground.guard }], guard := some (14, true) }) (v := ?_) rfl (by kernel_rfl) (by kernel_rfl) (by kernel_rfl) (fun _ _ _ h => h) (Or.inl ⟨by rfl, ?_⟩) (by assumption) ?_
                   rotate_left
                   · (intro w0 hSw; (try dsimp only at hSw); go_split_ands; go_simp; with_reducible rfl)
                   try simp only [Act.put, List.setIfInBounds_toArray, List.set_cons_zero, List.set_cons_succ]
                   refine wpAnyH_take (i := 16) (oi := { dst := some 132, op := Op.load 25 (Operand.tmp 131), type := 25, pos := "law.go:65", after := #[{ on := 15, ground := Ground.data }, { on := 14, ground := Ground.guard }], guard := some (14, true) }) (v := ?_) rfl (by kernel_rfl) (by kernel_rfl) (by kernel_rfl) (fun _ _ _ h => h) (Or.inl ⟨by rfl, ?_⟩) (by assumption) ?_
                   rotate_left
                   · (intro w0 hSw; (try dsimp only at hSw); go_split_ands; go_simp; with_reducible rfl)
                   try simp only [Act.put, List.setIfInBounds_toArray, List.set_cons_zero, List.set_cons_succ]
                   refine wpAnyH_take (i := 17) (oi := { dst := some 133, op := Op.move (Operand.tmp 16), type := 3, pos := "law.go:65", after := #[{ on := 14, ground := Ground.guard }], guard := some (14, true) }) (v := ?_) rfl (by kernel_rfl) (by kernel_rfl) (by kernel_rfl) (fun _ _ _ h => h) (Or.inl ⟨by rfl, ?_⟩) (by assumption) ?_
                   rotate_left
                   · (intro w0 hSw; (try dsimp only at hSw); go_split_ands; go_simp; with_reducible rfl)
                   try simp only [Act.put, List.setIfInBounds_toArray, List.set_cons_zero, List.set_cons_succ]
                   refine wpAnyH_take (i := 19) (oi := { dst := some 135, op := Op.fieldAddr 38 (Operand.tmp 14) 0, type := 0, pos := "law.go:65", after := #[{ on := 14, ground := Ground.guard }], guard := some (14, true) }) (v := ?_) rfl (by kernel_rfl) (by kernel_rfl) (by kernel_rfl) (fun _ _ _ h => h) (Or.inl ⟨by rfl, ?_⟩) (by assumption) ?_
                   rotate_left
                   · (intro w0 hSw; (try dsimp only at hSw); go_split_ands; go_simp; with_reducible rfl)
                   try simp only [Act.put, List.setIfInBounds_toArray, List.set_cons_zero, List.set_cons_succ]
                   refine wpAnyH_take (i := 20) (oi := { dst := some 136, op := Op.load 25 (Operand.tmp 135), type := 25, pos := "law.go:65", after := #[{ on := 19, ground := Ground.data }, { on := 14, ground := Ground.guard }], guard := some (14, true) }) (v := ?_) rfl (by kernel_rfl) (by kernel_rfl) (by kernel_rfl) (fun _ _ _ h => h) (Or.inl ⟨by rfl, ?_⟩) (by assumption) ?_
                   rotate_left
                   · (intro w0 hSw; (try dsimp only at hSw); go_split_ands; go_simp; with_reducible rfl)
                   try simp only [Act.put, List.setIfInBounds_toArray, List.set_cons_zero, List.set_cons_succ]
                   refine wpAnyH_take (i := 21) (oi := { dst := some 137, op := Op.move (Operand.tmp 16), type := 3, pos := "law.go:65", after := #[{ on := 14, ground := Ground.guard }], guard := some (14, true) }) (v := ?_) rfl (by kernel_rfl) (by kernel_rfl) (by kernel_rfl) (fun _ _ _ h => h) (Or.inl ⟨by rfl, ?_⟩) (by assumption) ?_
                   rotate_left
                   · (intro w0 hSw; (try dsimp only at hSw); go_split_ands; go_simp; with_reducible rfl)
                   try simp only [Act.put, List.setIfInBounds_toArray, List.set_cons_zero, List.set_cons_succ]
                   refine wpAnyH_ready (rs := [18]) (by kernel_rfl) (by simp) ?_
                   refine AllReadyH.cons (o := { dst := some 134, op := Op.call { callee := Callee.value (Operand.func 11), args := #[Operand.tmp 132, Operand.tmp 133], argTypes := #[25, 3] }, type := 22, pos := "law.go:65", after := #[{ on := 16, ground := Ground.data }, { on := 17, ground := Ground.data }, { on := 14, ground := Ground.chain }, { on := 14, ground := Ground.guard }], guard := some (14, true) }) rfl (fun K hK => ?_) AllReadyH.nil
                   go_simp
                   go_at_call 11
                   refine (get11 ra k _).mono ?_
                   rintro e wa ⟨rfl, hba⟩
                   have hAa : rowAt wa A = some Ea := rowAt_below hA hba rfl
                   have hCa : rowAt wa C = some Eb := rowAt_below hCc hba rfl
                   have hRa : rowAt wa (w.heap.size + 1) = some r.arr := rowAt_below hR hba rfl
                   have HBa := Lib.hid (below_step HB.out hba rfl rfl rfl rfl)
                   have HLa := Lib.hid (HLs.out.below hba rfl hmb')
                   clear hba
                   refine hK.out _ _ ⟨hAa, hCa, hRa⟩ (fun hHeld => ?_)
                   clear hK K
                   try simp only [Act.put, List.setIfInBounds_toArray, List.set_cons_zero, List.set_cons_succ]
                   refine wpAnyH_ready (rs := [22]) (by kernel_rfl) (by simp) ?_
                   refine AllReadyH.cons (o := { dst := some 138, op := Op.call { callee := Callee.value (Operand.func 11), args := #[Operand.tmp 136, Operand.tmp 137], argTypes := #[25, 3] }, type := 22, pos := "law.go:65", after := #[{ on := 20, ground := Ground.data }, { on := 21, ground := Ground.data }, { on := 18, ground := Ground.chain }, { on := 14, ground := Ground.guard }], guard := some (14, true) }) rfl (fun K hK => ?_) AllReadyH.nil
                   go_simp
                   go_at_call 11
                   refine (get11 rb k _).mono ?_
                   rintro e wb ⟨rfl, hbb⟩
                   have hAb : rowAt wb A = some Ea := rowAt_below hAa hbb rfl
                   have hCb : rowAt wb C = some Eb := rowAt_below hCa hbb rfl
                   have hRb : rowAt wb (w.heap.size + 1) = some r.arr := rowAt_below hRa hbb rfl
                   have HBb := Lib.hid (below_step HBa.out hbb rfl rfl rfl rfl)
                   have HLb := Lib.hid (HLa.out.below hbb rfl (by have := rowAt_lt hAa; omega))
                   clear hbb
                   refine hK.out _ _ ⟨hAb, hCb, hRb⟩ (fun hHeld => ?_)
                   clear hK K
                   try simp only [Act.put, List.setIfInBounds_toArray, List.set_cons_zero, List.set_cons_succ]
                   refine wpAnyH_take (i := 23) (oi := { dst := some 139, op := Op.binOp BinOp.neq 22 (Operand.tmp 134) (Operand.tmp 138) 22, type := 4, pos := "law.go:65", after := #[{ on := 18, ground := Ground.data }, { on := 22, ground := Ground.data }, { on := 14, ground := Ground.guard }], guard := some (14, true) }) (v := ?_) rfl (by kernel_rfl) (by kernel_rfl) (by kernel_rfl) (fun _ _ _ h => h) (Or.inl ⟨by rfl, ?_⟩) (by assumption) ?_
                   rotate_left
                   · (intro w0 hSw; (try dsimp only at hSw); go_split_ands; go_simp; with_reducible rfl)
                   try simp only [Act.put, List.setIfInBounds_toArray, List.set_cons_zero, List.set_cons_succ]
                   refine wpAnyH_take (i := 24) (oi := { dst := some 140, op := Op.pick (Operand.tmp 130) (Operand.tmp 139) (Operand.const (Value.bool false)), type := 4, pos := "law.go:65", after := #[{ on := 14, ground := Ground.data }, { on := 23, ground := Ground.data }, { on := 12, ground := Ground.guard }], guard := some (12, false) }) (v := ?_) rfl (by kernel_rfl) (by kernel_rfl) (by kernel_rfl) (fun _ _ _ h => h) (Or.inl ⟨by rfl, ?_⟩) (by assumption) ?_
                   rotate_left
                   · (intro w0 hSw; (try dsimp only at hSw); go_split_ands; go_simp; with_reducible rfl)
                   try simp only [Act.put, List.setIfInBounds_toArray, List.set_cons_zero, List.set_cons_succ]
                   refine wpAnyH_take (i := 25) (oi := { dst := some 141, op := Op.pick (Operand.tmp 128) (Operand.const (Value.bool true)) (Operand.tmp 140), type := 4, pos := "law.go:65", after := #[{ on := 12, ground := Ground.data }, { on := 24, ground := Ground.data }], guard := none }) (v := ?_) rfl (by kernel_rfl) (by kernel_rfl) (by kernel_rfl) (fun _ _ _ h => h) (Or.inl ⟨by rfl, ?_⟩) (by assumption) ?_
                   rotate_left
                   · (intro w0 hSw; (try dsimp only at hSw); go_split_ands; go_simp; with_reducible rfl)
                   try simp only [Act.put, List.setIfInBounds_toArray, List.set_cons_zero, List.set_cons_succ]
                   refine wpAnyH_done (by kernel_rfl) ?_ _
                   )
                 have HAF := Lib.hid hAb
                 have HCF := Lib.hid hCb
                 have HRF := Lib.hid hRb
                 have HMF : Hid (mb ≤ wb.heap.size) := Lib.hid (by have := rowAt_lt hAb; omega)
                 clear la lc lr hA hCc hR hAa hCa hRa hAb hCb hRb HBa HLa HB HL hHeld hmb'
                 go_wp2
                 go_roundw
                 case rel => exact ⟨k + 1, by omega, by go_num, HAF.out, HCF.out, HRF.out, HLb.out, HMF.out, HBb.out⟩
                 case measure => simp [intOf]; omega
             · have lT6 : (puts T).length ≤ 6 := Nat.le_trans (puts_length T) lT
               have HL := Lib.hid (HLs.out.lst hmb')
               have HA := Lib.hid hA
               have HCC := Lib.hid hCc
               have HR := Lib.hid hR
               clear hA hCc hR
               have a32 := (rowAt_cell HA.out 32).trans (efA_lo _ _ _ _ _ 32 (by omega) |>.trans ra.at32)
               have a33 := (rowAt_cell HA.out 33).trans (efA_lo _ _ _ _ _ 33 (by omega) |>.trans ra.at33)
               have a34 := (rowAt_cell HA.out 34).trans (efA_lo _ _ _ _ _ 34 (by omega) |>.trans ra.at34)
               have a35 := (rowAt_cell HA.out 35).trans (efA_lo _ _ _ _ _ 35 (by omega) |>.trans ra.at35)
               cases hh : hasB (puts T) 33
               · have HH := Lib.hid hh
                 clear hh
                 have c32 := (rowAt_cell HR.out 32).trans r.at32
                 have c33 := (rowAt_cell HR.out 33).trans r.at33
                 have c34 := (rowAt_cell HR.out 34).trans r.at34
                 have c35 := (rowAt_cell HR.out 35).trans r.at35
                 obtain ⟨f1, f2, f3, f4⟩ := HF.out.nofl (of_decide_eq_false HH.out)
                 have e1 : (ra.n == r.n) = true := by simp [f1]
                 have e2 : (ra.z == r.z) = true := by simp [f2]
                 have e3 : (ra.c == r.c) = true := by simp [f3]
                 have e4 : (ra.v == r.v) = true := by simp [f4]
                 clear f1 f2 f3 f4
                 go_wp2_with (go_at_call 22; refine (has_b HL.out lT6 HH _).mono ?_; rintro e w' ⟨rfl, rfl⟩)
                 go_ret
                 exact ⟨rfl, HB.out⟩
               · have HH := Lib.hid hh
                 clear hh
                 have c32 := (rowAt_cell HCC.out 32).trans (efA_lo _ _ _ _ _ 32 (by omega) |>.trans rb.at32)
                 have c33 := (rowAt_cell HCC.out 33).trans (efA_lo _ _ _ _ _ 33 (by omega) |>.trans rb.at33)
                 have c34 := (rowAt_cell HCC.out 34).trans (efA_lo _ _ _ _ _ 34 (by omega) |>.trans rb.at34)
                 have c35 := (rowAt_cell HCC.out 35).trans (efA_lo _ _ _ _ _ 35 (by omega) |>.trans rb.at35)
                 obtain ⟨f1, f2, f3, f4⟩ := HF.out.fl (of_decide_eq_true HH.out)
                 have e1 : (ra.n == rb.n) = true := by simp [f1]
                 have e2 : (ra.z == rb.z) = true := by simp [f2]
                 have e3 : (ra.c == rb.c) = true := by simp [f3]
                 have e4 : (ra.v == rb.v) = true := by simp [f4]
                 clear f1 f2 f3 f4
                 go_wp2_with (go_at_call 22; refine (has_b HL.out lT6 HH _).mono ?_; rintro e w' ⟨rfl, rfl⟩)
                 go_ret
                 exact ⟨rfl, HB.out⟩
end Go.Proofs.Ytpjfjdncdiemlaa
