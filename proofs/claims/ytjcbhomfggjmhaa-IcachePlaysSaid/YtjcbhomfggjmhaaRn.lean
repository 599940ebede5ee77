import Derived.Test.YtjcbhomfggjmhaaRm
import Derived.Test.YtjcbhomfggjmhaaHe
namespace Go.Proofs.Ytjcbhomfggjmhaa.Mm
open Go.ChangeShapes Go.WideShapes Go.ChangeAt Go.RowKit Go.Maps
set_option linter.unusedVariables false
theorem ivL_take : ∀ (l : List Iv) (i : Nat), (ivL l).take (i * 3) = ivL (l.take i)
  | [], i => by show ([] : List Value).take _ = ivL (([] : List Iv).take i); rw [List.take_nil, List.take_nil]; rfl
  | x :: l, 0 => rfl
  | x :: l, i + 1 => by
    rw [show (i + 1) * 3 = i * 3 + 3 by omega, List.take_succ_cons]
    show (([.int .i64 (x.f : Nat), .int .i64 x.b, .int .u64 (x.l : Nat)] : List Value) ++ ivL l).take (i * 3 + 3) = ([.int .i64 (x.f : Nat), .int .i64 x.b, .int .u64 (x.l : Nat)] : List Value) ++ ivL (l.take i)
    rw [← ivL_take l i]
    rfl
theorem eraseIdx_iv (l : List Iv) (i : Nat) : ivL (l.eraseIdx i) = (ivL l).take (i * 3) ++ (ivL l).drop ((i + 1) * 3) := by rw [List.eraseIdx_eq_take_drop_succ, ivL_app, ivL_take, ivL_drop]
theorem wfor_mono (l : List Iv) (c : Int) : ∀ {a b : Nat}, a ≤ b → wfor l c a ≤ wfor l c b := by
  intro a b h
  induction b with
  | zero => rw [show a = 0 by omega]; exact Nat.le_refl _
  | succ b ih =>
    by_cases e : a = b + 1
    · rw [e]; exact Nat.le_refl _
    · exact Nat.le_trans (ih (by omega)) (Nat.le_add_right _ _)
def delQ (c : Int) (ln : Nat) (y : Cl) : Bool := y.c != c || y.a / 64 != ln
def DelTo (R : Rs) (c n : Int) (R' : Rs) : Prop := (wfor R.wt c R.wt.length = 0 ∧ R' = R) ∨ (wfor R.wt c R.wt.length ≠ 0 ∧ ∃ k, k < R.wt.length ∧ ((R.wt.getD k iz).f : Int) = c ∧ (wfor R.wt c k : Int) = (max n 0) % ((wfor R.wt c R.wt.length : Nat) : Int) ∧ R' = (R.withW (R.wt.eraseIdx k)).setL 1 (R.cache.filter (delQ c (R.wt.getD k iz).l)))
def DelR (R : Rs) (c n : Int) (w : World) (lo : Nat → Prop) (p : Nat) (L : Rl) (e : Ending) (w' : World) : Prop := e = .returned (.bool (decide (wfor R.wt c R.wt.length ≠ 0))) ∧ (∃ V' R', DelTo R c n R' ∧ RsC w' lo p L V' R') ∧ Sv lo w w'
section
variable {w w' : World} {lo : Nat → Prop} {p : Nat} {L : Rl} {V : Nat → Value} {R R' : Rs}
set_option maxRecDepth 100000 in
set_option maxHeartbeats 8000000 in
theorem rdeliver_c (h : RsC w lo p L V R) (ha : ∀ y ∈ R.cache, y.a < 18446744073709551616) (c n : Int) (hn : n ≤ 9223372036854775807) :
    Calls Try.prog 38 #[.pointer (some ⟨p, 0, none⟩), .int .i64 c, .int .i64 n] w (DelR R c n w lo p L) := by
  have HWT := Lib.hid (rwaiting_c h c)
  have HPOST : Hid (∀ V' R' w', wfor R.wt c R.wt.length ≠ 0 → DelTo R c n R' → RsC w' lo p L V' R' → Sv lo w w' → DelR R c n w lo p L (.returned (.bool true)) w') := Lib.hid (fun V' R' w' h0 h1 h2 h3 => ⟨by rw [decide_eq_true h0], ⟨V', R', h1, h2⟩, h3⟩)
  have HA := Lib.hid ha
  clear ha
  have H := Lib.hid h
  obtain ⟨m, hm⟩ : ∃ m, wfor R.wt c R.wt.length = m := ⟨_, rfl⟩
  have HM := Lib.hid hm
  rw [hm] at HWT
  by_cases h0 : m = 0
  · have HV : Hid (DelTo R c n R) := Lib.hid (.inl ⟨hm.trans h0, rfl⟩)
    have HD : Hid (decide (wfor R.wt c R.wt.length ≠ 0) = false) := Lib.hid (decide_eq_false fun h => h (hm.trans h0))
    rw [h0] at HWT
    clear h h0 hm HM
    go_enter Try.func38, Try.ntmps38
    go_wp2_with (go_at_call 49; refine HWT.out.mono ?_; rintro e w1 ⟨rfl, h1⟩; obtain rfl := h1.symm)
    go_ret
    exact ⟨by rw [HD.out]; rfl, ⟨V, R, HV.out, H.out⟩, Sv.refl _ _⟩
  · have HPO : Hid (∀ V' R' w', DelTo R c n R' → RsC w' lo p L V' R' → Sv lo w w' → DelR R c n w lo p L (.returned (.bool true)) w') := Lib.hid (fun V' R' w' => HPOST.out V' R' w' fun h => h0 (hm.symm.trans h))
    have hwlen : R.wt.length ≤ 1000000 := h.small 3 (by omega)
    have hmle : m ≤ R.wt.length := by rw [← hm]; exact wfor_le _ _ _
    obtain ⟨i, hi⟩ : ∃ i : Nat, (max n 0) % (m : Int) = i := ⟨((max n 0) % (m : Int)).toNat, by have := Int.emod_nonneg (max n 0) (b := (m : Int)) (by omega); omega⟩
    have him : i < m := by have := Int.emod_lt_of_pos (max n 0) (b := (m : Int)) (by omega); omega
    have HIM := Lib.hid hi
    have hcase : (n < 0 ∧ i = 0) ∨ (¬ n < 0 ∧ n % (m : Int) = i ∧ n.tmod (m : Int) = i) := by
      by_cases hneg : n < 0
      · rw [show max n 0 = 0 by omega, Int.zero_emod] at hi
        exact .inl ⟨hneg, by omega⟩
      · rw [show max n 0 = n by omega] at hi
        exact .inr ⟨hneg, hi, by rw [Int.tmod_eq_emod_of_nonneg (by omega)]; exact hi⟩
    have q1 : ((m : Int) == 0) = false := by rw [beq_eq_false_iff_ne]; omega
    have q2 : (m : Int) ≠ 0 := by omega
    have q3 : (0 : Int) ≤ m := by omega
    obtain ⟨_, _, _, _, _, c5⟩ := h.cells
    obtain ⟨pa, cp, hv, hf⟩ := own_form h.row3
    obtain ⟨g, rfl⟩ : ∃ g, pa = some ⟨g, 0, none⟩ := by
      rcases hf with hf | hf
      · omega
      · exact hf
    have HR3 := Lib.hid h.row3
    rw [hv] at c5 HR3
    have HC5 := Lib.hid c5
    have HPL := Lib.hid h.pl
    have HWL := Lib.hid hwlen
    have hcp := own_cap HR3.out
    have HCPL := Lib.hid hcp
    clear h h0 hm hi hv hf hcp
    have HLG : Hid (∀ k, k < R.wt.length → ∀ W9 v9, Below w.heap.size w W9 → W9.ownsRow w.heap.size 118 3 v9 (k + (R.wt.length - (k + 1))) ([] ++ (ivL R.wt).take (k * 3) ++ (ivL R.wt).drop ((k + 1) * 3)) → _) := Lib.hid (fun k hk W9 v9 hb ho => H.out.layG (k := 3) (R' := R.withW (R.wt.eraseIdx k)) (by omega) hb (by
      show W9.ownsRow w.heap.size 118 3 v9 (R.wt.eraseIdx k).length (ivL (R.wt.eraseIdx k))
      rw [eraseIdx_iv, List.length_eraseIdx_of_lt hk]
      rw [show k + (R.wt.length - (k + 1)) = R.wt.length - 1 by omega] at ho
      exact ho) (withW_facts _ _).1 (withW_facts _ _).2.1 (by show (R.wt.eraseIdx k).length ≤ _; rw [List.length_eraseIdx_of_lt hk]; omega))
    rcases hcase with ⟨hneg, hi0⟩ | ⟨hneg, hi1, hi2⟩
    · have HI0 := Lib.hid hi0
      clear hi0
      go_enter Try.func38, Try.ntmps38
      go_wp2_with (go_at_call 49; refine HWT.out.mono ?_; rintro e w1 ⟨rfl, h1⟩; obtain rfl := h1.symm)
      clear q1 q2 q3 hneg
      try clear hi1 hi2
      go_loopw [2, 8] (fun s2 s8 wr => ∃ k r : Nat, k < R.wt.length ∧ r ≤ 1000000 ∧ s8 = .int .i64 k ∧ s2 = .int .i64 r ∧ Hid (wfor R.wt c k + r = i) ∧ wr = w) (fun _ s8 _ => R.wt.length - (intOf s8).toNat)
      case atStart => exact ⟨0, i, by omega, by omega, rfl, by rw [HI0.out]; rfl, Lib.hid (Nat.zero_add i), rfl⟩
      case round =>
        obtain ⟨k, r, hk, hr, rfl, rfl, HK, hwr⟩ := hrel
        obtain rfl := hwr.symm
        obtain ⟨i1, i2, i3⟩ := ivL_get R.wt k hk
        have e1 := (own_cells HR3.out).1 _ _ i1
        have e3 := (own_cells HR3.out).1 _ _ i3
        have gk : (k : Int) < R.wt.length := by omega
        have gk0 : (0 : Int) ≤ k := by omega
        have HKL := Lib.hid hk
        have HY : Hid (∃ y, R.wt.getD k iz = y) := Lib.hid ⟨_, rfl⟩
        obtain ⟨y, hy⟩ := HY.out
        have HYE := Lib.hid hy
        rw [hy] at e1 e3
        clear i1 i2 i3 hy HY
        by_cases hyc : (y.f : Int) = c
        · have q1 : ((y.f : Int) != c) = false := by simp [hyc]
          have q2 : ((y.f : Int) == c) = true := by simp [hyc]
          have HYC := Lib.hid hyc
          have HW1 : Hid (wfor R.wt c (k + 1) = wfor R.wt c k + 1) := Lib.hid (by show wfor R.wt c k + (if ((R.wt.getD k iz).f : Int) = c then 1 else 0) = _; rw [HYE.out, if_pos hyc])
          clear hyc
          by_cases hr0 : r = 0
          · subst hr0
            have HEX : Hid (DelTo R c n ((R.withW (R.wt.eraseIdx k)).setL 1 (R.cache.filter (delQ c y.l)))) := Lib.hid (.inr ⟨by rw [HM.out]; omega, k, HKL.out, by rw [HYE.out]; exact HYC.out, by rw [HM.out, HIM.out]; have := HK.out; omega, by rw [HYE.out]⟩)
            clear HW1 HYC HYE HK hr
            generalize y.l = ln at e3 HEX
            have hcp := HCPL.out
            have hwl := HWL.out
            obtain ⟨hs1, hs2⟩ := own_srcs HR3.out (ivL_one R.wt) HKL.out
            have HU1 : Hid (sliced (some ⟨g, 0, none⟩) 0 k cp 3 = .slice (some ⟨g, 0, none⟩) k cp) := Lib.hid (by unfold sliced; split <;> simp [Go.WideShapes.add_plain])
            have HU2 : Hid (sliced (some ⟨g, 0, none⟩) (k + 1) R.wt.length cp 3 = .slice (some (if cp = k + 1 then ⟨g, 0, none⟩ else ⟨g, (k + 1) * 3, none⟩)) (R.wt.length - (k + 1)) (cp - (k + 1))) := Lib.hid (by unfold sliced; split <;> simp [Go.WideShapes.add_plain])
            obtain ⟨u1, hu1⟩ : ∃ u1, Value.slice (some ⟨g, 0, none⟩) k cp = u1 := ⟨_, rfl⟩
            obtain ⟨u2, hu2⟩ : ∃ u2, Value.slice (some (if cp = k + 1 then ⟨g, 0, none⟩ else ⟨g, (k + 1) * 3, none⟩)) (R.wt.length - (k + 1)) (cp - (k + 1)) = u2 := ⟨_, rfl⟩
            rw [hu1] at hs1 HU1
            rw [hu2] at hs2 HU2
            clear hu1 hu2
            have HLG2 := Lib.hid (HLG.out k HKL.out)
            have HCW : Hid (w.cell? ⟨p, 5, none⟩ = some (.slice (some ⟨g, 0, none⟩) R.wt.length cp)) := Lib.hid HC5.out
            have HCP : Hid (w.drew.cell? ⟨p, 5, none⟩ = some (.slice (some ⟨g, 0, none⟩) R.wt.length cp)) := Lib.hid HC5.out
            have HB0 : Hid (Below w.heap.size w (w.drew.alloc (.cells #[] 118))) := Lib.hid ((below_drewN (Below.refl _ _) 1).alloc (Nat.le_refl _) _)
            have HC0 := Lib.hid ((HB0.out.cell (p := ⟨p, 5, none⟩) HPL.out).trans HCW.out)
            have HO0 : Hid ((w.drew.alloc (.cells #[] 118)).ownsRow w.heap.size 118 3 (.slice (some ⟨w.drew.heap.size, 0, none⟩) 0 0) 0 []) := Lib.hid (World.ownsRow_made w.drew #[] 0 (Nat.le_refl _) (by unfold maxLen; omega) rfl)
            have HS1 := Lib.hid (hs1.past HB0.out)
            have HS2 : Hid (∀ W, Below w.heap.size w W → Src W 3 u2 (R.wt.length - (k + 1)) ((ivL R.wt).drop ((k + 1) * 3))) := Lib.hid (fun W hb => hs2.past hb)
            have hkl := HKL.out
            have k1 : IntKind.i64.wrap ((k : Int) + 1) = (k : Int) + 1 := by rw [IntKind.wrap_i64]; omega
            have k2 : (k : Int) ≤ cp := by omega
            have k3 : (k : Int) + 1 ≤ R.wt.length := by omega
            have k4 : ((R.wt.length : Nat) : Int) ≤ cp := by omega
            have k6 : (0 : Int) ≤ (k : Int) + 1 := by omega
            have k7 : (k : Int) + 1 ≤ cp := by omega
            generalize hx1 : (ivL R.wt).take (k * 3) = x1 at hs1 HLG2 HS1
            generalize hx2 : (ivL R.wt).drop ((k + 1) * 3) = x2 at hs2 HLG2 HS2
            clear hx1 hx2 hs1 hs2 HLG
            go_upto_region 13 with (fail)
            generalize hn2 : R.wt.length = n2 at *
            refine region_e 19 (fun w' => w'.cell? ⟨p, 5, none⟩ = some (.slice (some ⟨g, 0, none⟩) n2 cp)) (by kernel_rfl) HCP.out (fun hHeld => ?_)
            refine AnyE.take (i := 0) (oi := { dst := some 58, op := Go.Op.move (Go.Operand.tmp 0), type := 40, pos := "ref.go:203", after := #[], guard := none }) (v := ?_) rfl (by kernel_rfl) (by kernel_rfl) (by kernel_rfl) (by kernel_rfl) (fun _ _ _ h => h) (Or.inl ⟨by rfl, ?_⟩) (by assumption) ?_
            rotate_left
            · (intro w0 hSw; (try dsimp only at hSw); go_split_ands; go_simp; with_reducible rfl)
            try simp only [Act.put, List.setIfInBounds_toArray, List.set_cons_zero, List.set_cons_succ]
            refine AnyE.take (i := 2) (oi := { dst := some 60, op := Go.Op.move (Go.Operand.tmp 0), type := 40, pos := "ref.go:203", after := #[], guard := none }) (v := ?_) rfl (by kernel_rfl) (by kernel_rfl) (by kernel_rfl) (by kernel_rfl) (fun _ _ _ h => h) (Or.inl ⟨by rfl, ?_⟩) (by assumption) ?_
            rotate_left
            · (intro w0 hSw; (try dsimp only at hSw); go_split_ands; go_simp; with_reducible rfl)
            try simp only [Act.put, List.setIfInBounds_toArray, List.set_cons_zero, List.set_cons_succ]
            refine AnyE.take (i := 3) (oi := { dst := some 61, op := Go.Op.nilCheck (Go.Operand.tmp 60), type := 0, pos := "ref.go:203", after := #[{ on := 2, ground := Go.Ground.data }], guard := none }) (v := ?_) rfl (by kernel_rfl) (by kernel_rfl) (by kernel_rfl) (by kernel_rfl) (fun _ _ _ h => h) (Or.inl ⟨by rfl, ?_⟩) (by assumption) ?_
            rotate_left
            · (intro w0 hSw; (try dsimp only at hSw); go_split_ands; go_simp; with_reducible rfl)
            try simp only [Act.put, List.setIfInBounds_toArray, List.set_cons_zero, List.set_cons_succ]
            refine AnyE.take (i := 4) (oi := { dst := some 62, op := Go.Op.fieldAddr 85 (Go.Operand.tmp 61) 5, type := 0, pos := "ref.go:203", after := #[{ on := 3, ground := Go.Ground.data }], guard := none }) (v := ?_) rfl (by kernel_rfl) (by kernel_rfl) (by kernel_rfl) (by kernel_rfl) (fun _ _ _ h => h) (Or.inl ⟨by rfl, ?_⟩) (by assumption) ?_
            rotate_left
            · (intro w0 hSw; (try dsimp only at hSw); go_split_ands; go_simp; with_reducible rfl)
            try simp only [Act.put, List.setIfInBounds_toArray, List.set_cons_zero, List.set_cons_succ]
            refine AnyE.take (i := 5) (oi := { dst := some 63, op := Go.Op.load 83 (Go.Operand.tmp 62), type := 83, pos := "ref.go:203", after := #[{ on := 4, ground := Go.Ground.data }], guard := none }) (v := ?_) rfl (by kernel_rfl) (by kernel_rfl) (by kernel_rfl) (by kernel_rfl) (fun _ _ _ h => h) (Or.inl ⟨by rfl, ?_⟩) (by assumption) ?_
            rotate_left
            · (intro w0 hSw; (try dsimp only at hSw); go_split_ands; go_simp; with_reducible rfl)
            try simp only [Act.put, List.setIfInBounds_toArray, List.set_cons_zero, List.set_cons_succ]
            refine AnyE.take (i := 6) (oi := { dst := some 64, op := Go.Op.move (Go.Operand.tmp 8), type := 3, pos := "ref.go:203", after := #[], guard := none }) (v := ?_) rfl (by kernel_rfl) (by kernel_rfl) (by kernel_rfl) (by kernel_rfl) (fun _ _ _ h => h) (Or.inl ⟨by rfl, ?_⟩) (by assumption) ?_
            rotate_left
            · (intro w0 hSw; (try dsimp only at hSw); go_split_ands; go_simp; with_reducible rfl)
            try simp only [Act.put, List.setIfInBounds_toArray, List.set_cons_zero, List.set_cons_succ]
            refine AnyE.take (i := 7) (oi := { dst := some 65, op := Go.Op.slice 83 (Go.Operand.tmp 63) none (some (Go.Operand.tmp 64)) none, type := 83, pos := "ref.go:203", after := #[{ on := 5, ground := Go.Ground.data }, { on := 6, ground := Go.Ground.data }], guard := none }) (v := u1) rfl (by kernel_rfl) (by kernel_rfl) (by kernel_rfl) (by kernel_rfl) (fun _ _ _ h => h) (Or.inl ⟨by rfl, ?_⟩) (by assumption) ?_
            · (intro w0 hSw; rw [← HU1.out]; (try dsimp only at hSw); go_split_ands; go_simp)
            try simp only [Act.put, List.setIfInBounds_toArray, List.set_cons_zero, List.set_cons_succ]
            refine AnyE.take (i := 9) (oi := { dst := some 67, op := Go.Op.move (Go.Operand.tmp 0), type := 40, pos := "ref.go:203", after := #[], guard := none }) (v := ?_) rfl (by kernel_rfl) (by kernel_rfl) (by kernel_rfl) (by kernel_rfl) (fun _ _ _ h => h) (Or.inl ⟨by rfl, ?_⟩) (by assumption) ?_
            rotate_left
            · (intro w0 hSw; (try dsimp only at hSw); go_split_ands; go_simp; with_reducible rfl)
            try simp only [Act.put, List.setIfInBounds_toArray, List.set_cons_zero, List.set_cons_succ]
            refine AnyE.take (i := 10) (oi := { dst := some 68, op := Go.Op.nilCheck (Go.Operand.tmp 67), type := 0, pos := "ref.go:203", after := #[{ on := 9, ground := Go.Ground.data }], guard := none }) (v := ?_) rfl (by kernel_rfl) (by kernel_rfl) (by kernel_rfl) (by kernel_rfl) (fun _ _ _ h => h) (Or.inl ⟨by rfl, ?_⟩) (by assumption) ?_
            rotate_left
            · (intro w0 hSw; (try dsimp only at hSw); go_split_ands; go_simp; with_reducible rfl)
            try simp only [Act.put, List.setIfInBounds_toArray, List.set_cons_zero, List.set_cons_succ]
            refine AnyE.take (i := 11) (oi := { dst := some 69, op := Go.Op.fieldAddr 85 (Go.Operand.tmp 68) 5, type := 0, pos := "ref.go:203", after := #[{ on := 10, ground := Go.Ground.data }], guard := none }) (v := ?_) rfl (by kernel_rfl) (by kernel_rfl) (by kernel_rfl) (by kernel_rfl) (fun _ _ _ h => h) (Or.inl ⟨by rfl, ?_⟩) (by assumption) ?_
            rotate_left
            · (intro w0 hSw; (try dsimp only at hSw); go_split_ands; go_simp; with_reducible rfl)
            try simp only [Act.put, List.setIfInBounds_toArray, List.set_cons_zero, List.set_cons_succ]
            refine AnyE.take (i := 12) (oi := { dst := some 70, op := Go.Op.load 83 (Go.Operand.tmp 69), type := 83, pos := "ref.go:203", after := #[{ on := 11, ground := Go.Ground.data }], guard := none }) (v := ?_) rfl (by kernel_rfl) (by kernel_rfl) (by kernel_rfl) (by kernel_rfl) (fun _ _ _ h => h) (Or.inl ⟨by rfl, ?_⟩) (by assumption) ?_
            rotate_left
            · (intro w0 hSw; (try dsimp only at hSw); go_split_ands; go_simp; with_reducible rfl)
            try simp only [Act.put, List.setIfInBounds_toArray, List.set_cons_zero, List.set_cons_succ]
            refine AnyE.take (i := 13) (oi := { dst := some 71, op := Go.Op.move (Go.Operand.tmp 8), type := 3, pos := "ref.go:203", after := #[], guard := none }) (v := ?_) rfl (by kernel_rfl) (by kernel_rfl) (by kernel_rfl) (by kernel_rfl) (fun _ _ _ h => h) (Or.inl ⟨by rfl, ?_⟩) (by assumption) ?_
            rotate_left
            · (intro w0 hSw; (try dsimp only at hSw); go_split_ands; go_simp; with_reducible rfl)
            try simp only [Act.put, List.setIfInBounds_toArray, List.set_cons_zero, List.set_cons_succ]
            refine AnyE.take (i := 14) (oi := { dst := some 72, op := Go.Op.binOp Go.BinOp.add 3 (Go.Operand.tmp 71) (Go.Operand.const (Go.Value.int Go.IntKind.i64 1)) 3, type := 3, pos := "ref.go:203", after := #[{ on := 13, ground := Go.Ground.data }], guard := none }) (v := ?_) rfl (by kernel_rfl) (by kernel_rfl) (by kernel_rfl) (by kernel_rfl) (fun _ _ _ h => h) (Or.inl ⟨by rfl, ?_⟩) (by assumption) ?_
            rotate_left
            · (intro w0 hSw; (try dsimp only at hSw); go_split_ands; go_simp; with_reducible rfl)
            try simp only [Act.put, List.setIfInBounds_toArray, List.set_cons_zero, List.set_cons_succ]
            refine AnyE.take (i := 15) (oi := { dst := some 73, op := Go.Op.slice 83 (Go.Operand.tmp 70) (some (Go.Operand.tmp 72)) none none, type := 83, pos := "ref.go:203", after := #[{ on := 12, ground := Go.Ground.data }, { on := 14, ground := Go.Ground.data }], guard := none }) (v := u2) rfl (by kernel_rfl) (by kernel_rfl) (by kernel_rfl) (by kernel_rfl) (fun _ _ _ h => h) (Or.inl ⟨by rfl, ?_⟩) (by assumption) ?_
            · (intro w0 hSw; rw [← HU2.out]; (try dsimp only at hSw); go_split_ands; go_simp)
            try simp only [Act.put, List.setIfInBounds_toArray, List.set_cons_zero, List.set_cons_succ]
            refine AnyE.ready (rs := [1]) (by kernel_rfl) (by simp) ?_
            refine AllE.cons (o := { dst := some 59, op := Go.Op.buildSlice 83 0 #[], type := 83, pos := "ref.go:203", after := #[], guard := none }) rfl (fun K hK => ?_) AllE.nil
            go_simp
            refine hK.out _ _ HC0.out (fun hHeld => ?_)
            clear hK K
            try simp only [Act.put, List.setIfInBounds_toArray, List.set_cons_zero, List.set_cons_succ]
            obtain ⟨v4, W4, hr4, ho4, hg4, _⟩ := app_c el118 _ w.heap.size 0 k _ u1 [] _ HO0.out HS1.out (by omega) (by simp)
            have HB4 := Lib.hid (HB0.out.grown hg4 HB0.out.size (fun q hq => (HO0.out.lt q hq).1))
            have HC4 := Lib.hid ((HB4.out.cell (p := ⟨p, 5, none⟩) HPL.out).trans HCW.out)
            rw [Nat.zero_add] at ho4
            have HO4 := Lib.hid ho4
            have HR4 := Lib.hid hr4
            clear hr4 ho4 hg4
            refine AnyE.ready (rs := [8]) (by kernel_rfl) (by simp) ?_
            refine AllE.cons (o := { dst := some 66, op := Go.Op.call { callee := Go.Callee.builtin Go.Builtin.append, args := #[Go.Operand.tmp 59, Go.Operand.tmp 65], argTypes := #[83, 83] }, type := 83, pos := "ref.go:203", after := #[{ on := 1, ground := Go.Ground.data }, { on := 7, ground := Go.Ground.data }], guard := none }) rfl (fun K hK => ?_) AllE.nil
            refine step_append_run rfl _ _ _ rfl _ _ _ _ rfl (by rfl) HR4.out ?_
            refine hK.out _ _ HC4.out (fun hHeld => ?_)
            clear hK K
            try simp only [Act.put, List.setIfInBounds_toArray, List.set_cons_zero, List.set_cons_succ]
            obtain ⟨v9, W9, hr9, ho9, hg9, _⟩ := app_c el118 W4 w.heap.size k (n2 - (k + 1)) v4 u2 _ _ HO4.out (HS2.out _ HB4.out) (by omega) HB4.out.size
            have HB9 := Lib.hid (HB4.out.grown hg9 HB4.out.size (fun q hq => (HO4.out.lt q hq).1))
            have HC9 := Lib.hid ((HB9.out.cell (p := ⟨p, 5, none⟩) HPL.out).trans HCW.out)
            obtain ⟨d1, d2, ⟨V1, hp1⟩, hb1⟩ := HLG2.out W9 v9 HB9.out ho9
            have H1 : Hid (RsC (W9.setCell ⟨p, 5, none⟩ v9) lo p L V1 _) := Lib.hid hp1
            have HB1 : Hid (Sv lo w (W9.setCell ⟨p, 5, none⟩ v9)) := Lib.hid hb1
            have d4 : W9.frozen? ⟨p, 5, none⟩ = false := d2
            have HR9 := Lib.hid hr9
            obtain ⟨a4, cp4, rfl, _⟩ := own_form ho9
            clear hr9 ho9 hg9 hp1 hb1 d1 d2
            refine AnyE.ready (rs := [16]) (by kernel_rfl) (by simp) ?_
            refine AllE.cons (o := { dst := some 74, op := Go.Op.call { callee := Go.Callee.builtin Go.Builtin.append, args := #[Go.Operand.tmp 66, Go.Operand.tmp 73], argTypes := #[83, 83] }, type := 83, pos := "ref.go:203", after := #[{ on := 8, ground := Go.Ground.data }, { on := 15, ground := Go.Ground.data }, { on := 8, ground := Go.Ground.chain }], guard := none }) rfl (fun K hK => ?_) AllE.nil
            refine step_append_run rfl _ _ _ rfl _ _ _ _ rfl (by rfl) HR9.out ?_
            refine hK.out _ _ HC9.out (fun hHeld => ?_)
            clear hK K
            try simp only [Act.put, List.setIfInBounds_toArray, List.set_cons_zero, List.set_cons_succ]
            refine AnyE.ready (rs := [17]) (by kernel_rfl) (by simp) ?_
            refine AllE.cons (o := { dst := some 75, op := Go.Op.nilCheck (Go.Operand.tmp 58), type := 0, pos := "ref.go:203", after := #[{ on := 0, ground := Go.Ground.data }, { on := 0, ground := Go.Ground.phase }, { on := 1, ground := Go.Ground.phase }, { on := 2, ground := Go.Ground.phase }, { on := 3, ground := Go.Ground.phase }, { on := 4, ground := Go.Ground.phase }, { on := 5, ground := Go.Ground.phase }, { on := 6, ground := Go.Ground.phase }, { on := 7, ground := Go.Ground.phase }, { on := 8, ground := Go.Ground.phase }, { on := 9, ground := Go.Ground.phase }, { on := 10, ground := Go.Ground.phase }, { on := 11, ground := Go.Ground.phase }, { on := 12, ground := Go.Ground.phase }, { on := 13, ground := Go.Ground.phase }, { on := 14, ground := Go.Ground.phase }, { on := 15, ground := Go.Ground.phase }, { on := 16, ground := Go.Ground.phase }], guard := none }) rfl (fun K hK => ?_) AllE.nil
            go_simp
            refine hK.out _ _ HC9.out (fun hHeld => ?_)
            clear hK K
            try simp only [Act.put, List.setIfInBounds_toArray, List.set_cons_zero, List.set_cons_succ]
            refine AnyE.take (i := 18) (oi := { dst := some 76, op := Go.Op.fieldAddr 85 (Go.Operand.tmp 75) 5, type := 0, pos := "ref.go:203", after := #[{ on := 17, ground := Go.Ground.data }, { on := 0, ground := Go.Ground.phase }, { on := 1, ground := Go.Ground.phase }, { on := 2, ground := Go.Ground.phase }, { on := 3, ground := Go.Ground.phase }, { on := 4, ground := Go.Ground.phase }, { on := 5, ground := Go.Ground.phase }, { on := 6, ground := Go.Ground.phase }, { on := 7, ground := Go.Ground.phase }, { on := 8, ground := Go.Ground.phase }, { on := 9, ground := Go.Ground.phase }, { on := 10, ground := Go.Ground.phase }, { on := 11, ground := Go.Ground.phase }, { on := 12, ground := Go.Ground.phase }, { on := 13, ground := Go.Ground.phase }, { on := 14, ground := Go.Ground.phase }, { on := 15, ground := Go.Ground.phase }, { on := 16, ground := Go.Ground.phase }], guard := none }) (v := ?_) rfl (by kernel_rfl) (by kernel_rfl) (by kernel_rfl) (by kernel_rfl) (fun _ _ _ h => h) (Or.inl ⟨by rfl, ?_⟩) (by assumption) ?_
            rotate_left
            · (intro w0 hSw; (try dsimp only at hSw); go_split_ands; go_simp; with_reducible rfl)
            try simp only [Act.put, List.setIfInBounds_toArray, List.set_cons_zero, List.set_cons_succ]
            have d3 := HC9.out
            refine AnyE.ready (rs := [19]) (by kernel_rfl) (by simp) ?_
            refine AllE.last (o := { dst := none, op := Go.Op.store 83 (Go.Operand.tmp 76) (Go.Operand.tmp 74), type := 0, pos := "ref.go:203", after := #[{ on := 18, ground := Go.Ground.data }, { on := 16, ground := Go.Ground.data }, { on := 16, ground := Go.Ground.chain }, { on := 0, ground := Go.Ground.phase }, { on := 1, ground := Go.Ground.phase }, { on := 2, ground := Go.Ground.phase }, { on := 3, ground := Go.Ground.phase }, { on := 4, ground := Go.Ground.phase }, { on := 5, ground := Go.Ground.phase }, { on := 6, ground := Go.Ground.phase }, { on := 7, ground := Go.Ground.phase }, { on := 8, ground := Go.Ground.phase }, { on := 9, ground := Go.Ground.phase }, { on := 10, ground := Go.Ground.phase }, { on := 11, ground := Go.Ground.phase }, { on := 12, ground := Go.Ground.phase }, { on := 13, ground := Go.Ground.phase }, { on := 14, ground := Go.Ground.phase }, { on := 15, ground := Go.Ground.phase }, { on := 16, ground := Go.Ground.phase }], guard := none }) rfl (by kernel_rfl) (fun K hK => ?_)
            go_simp
            refine hK.out _ _ ?_
            clear hK K
            try simp only [Act.put, List.setIfInBounds_toArray, List.set_cons_zero, List.set_cons_succ]
            generalize W9.setCell ⟨p, 5, none⟩ (.slice a4 _ cp4) = W1 at H1 HB1 ⊢
            clear d3 d4 HR9 HC9 HB9 HR4 HO4 HC4 HB4 HS2 HS1 HO0 HC0 HB0 HCP HCW HLG2 HU1 HU2 k1 k2 k3 k4 k6 k7 e1 e3 q1 q2 c5 gk gk0 hHeld
            have hls : R.cache.length ≤ 1000000 := H1.out.small 1 (by omega)
            have hlp : (R.cache.filter (delQ c ln)).length ≤ 1000000 := Nat.le_trans (List.length_filter_le _ _) hls
            have HLP := Lib.hid hlp
            clear hlp
            go_wp2
            go_loopw [10, 11] (fun s10 s11 wr => ∃ j : Nat, j ≤ R.cache.length ∧ s11 = .int .i64 j ∧ Hid (wr.ownsRow W1.heap.size 115 3 s10 ((R.cache.take j).filter (delQ c ln)).length (clL ((R.cache.take j).filter (delQ c ln)))) ∧ Hid (Below W1.heap.size W1 wr)) (fun _ s11 _ => R.cache.length + 1 - (intOf s11).toNat)
            case atStart => exact ⟨0, by omega, rfl, Lib.hid ⟨rfl, .inl ⟨rfl, rfl⟩⟩, Lib.hid (Below.refl _ _)⟩
            case round =>
              obtain ⟨j, hj, rfl, HO, HB⟩ := hrel
              have HS := Lib.hid (H1.out.past HB.out)
              have hr1 : wr.ownsRow 0 115 3 (V1 1) R.cache.length (clL R.cache) := HS.out.row1
              obtain ⟨_, _, _, c3, _⟩ := HS.out.cells
              obtain ⟨pb, cpb, hv, hf⟩ := own_form hr1
              rw [hv] at c3
              by_cases hlt : j < R.cache.length
              · obtain ⟨gb, rfl⟩ : ∃ g, pb = some ⟨g, 0, none⟩ := by
                  rcases hf with hf | hf
                  · omega
                  · exact hf
                have HRb := Lib.hid hr1
                rw [hv] at HRb
                obtain ⟨i1, i2, i3⟩ := clL_get R.cache j hlt
                have e1 := (own_cells HRb.out).1 _ _ i1
                have e2 := (own_cells HRb.out).1 _ _ i2
                have e3 := (own_cells HRb.out).1 _ _ i3
                have gj : (j : Int) < R.cache.length := by omega
                have HST := Lib.hid (filt_step (delQ c ln) cz R.cache j hlt)
                have hFl : ((R.cache.take j).filter (delQ c ln)).length < 1000000 := by
                  have : ((R.cache.take j).filter (delQ c ln)).length ≤ (R.cache.take j).length := List.length_filter_le _ _
                  rw [List.length_take] at this
                  omega
                have hya : (R.cache.getD j cz).a < 18446744073709551616 := HA.out _ (by rw [List.getD_eq_getElem?_getD, List.getElem?_eq_getElem hlt]; exact List.getElem_mem hlt)
                generalize R.cache.getD j cz = y at e1 e2 e3 HST hya
                have d1 : (y.a : Int) / 64 = ((y.a / 64 : Nat) : Int) := by omega
                have d2 : (y.a : Int).tdiv 64 = ((y.a / 64 : Nat) : Int) := by rw [Int.tdiv_eq_ediv_of_nonneg (by omega)]; omega
                have d3 : IntKind.u64.wrap ((y.a / 64 : Nat) : Int) = ((y.a / 64 : Nat) : Int) := by rw [IntKind.wrap_u64]; omega
                clear hya
                have HQQ : Hid (delQ c ln y = (y.c != c || y.a / 64 != ln)) := Lib.hid rfl
                generalize y.a / 64 = yl at d1 d2 d3 HQQ
                clear i1 i2 i3 hv hf hr1
                by_cases hyc : y.c = c
                · have q1 : (y.c != c) = false := by simp [hyc]
                  have q2 : (y.c == c) = true := by simp [hyc]
                  by_cases hyl : yl = ln
                  · have q3 : ((yl : Int) != (ln : Int)) = false := by simp [hyl]
                    have q4 : ((yl : Int) == (ln : Int)) = true := by simp [hyl]
                    have q5 : (yl != ln) = false := by simp [hyl]
                    have q6 : (yl == ln) = true := by simp [hyl]
                    have HF : Hid ((R.cache.take (j + 1)).filter (delQ c ln) = (R.cache.take j).filter (delQ c ln)) := Lib.hid (by rw [HST.out, if_neg (by rw [HQQ.out, q1, hyl]; simp), List.append_nil])
                    clear hyc hyl hFl
                    go_wp2
                    exact ⟨⟨j + 1, by omega, by go_num, by rw [HF.out]; exact HO, HB⟩, by simp [intOf]; omega⟩
                  · have q3 : ((yl : Int) != (ln : Int)) = true := by simp; omega
                    have q4 : ((yl : Int) == (ln : Int)) = false := by simp; omega
                    have q5 : (yl != ln) = true := by simpa using hyl
                    have q6 : (yl == ln) = false := by simpa using hyl
                    have HF : Hid ((R.cache.take (j + 1)).filter (delQ c ln) = (R.cache.take j).filter (delQ c ln) ++ [y]) := Lib.hid (by rw [HST.out, if_pos (by rw [HQQ.out, q1]; simpa using hyl)])
                    obtain ⟨v', w4, hr, ho4, hb4⟩ := keep_c HB.out HO.out hFl y
                    have HR := Lib.hid hr
                    have HO4 := Lib.hid ho4
                    have HB4 := Lib.hid hb4
                    clear hyc hyl hFl hr ho4 hb4
                    go_wp2_with (at_builtin; refine wpList_append_run' rfl _ _ _ rfl _ _ _ _ rfl rfl HR.out ?_)
                    exact ⟨⟨j + 1, by omega, by go_num, by rw [HF.out]; exact HO4, HB4⟩, by simp [intOf]; omega⟩
                · have q1 : (y.c != c) = true := by simpa using hyc
                  have q2 : (y.c == c) = false := by simpa using hyc
                  have HF : Hid ((R.cache.take (j + 1)).filter (delQ c ln) = (R.cache.take j).filter (delQ c ln) ++ [y]) := Lib.hid (by rw [HST.out, if_pos (by rw [HQQ.out, q1]; rfl)])
                  obtain ⟨v', w4, hr, ho4, hb4⟩ := keep_c HB.out HO.out hFl y
                  have HR := Lib.hid hr
                  have HO4 := Lib.hid ho4
                  have HB4 := Lib.hid hb4
                  clear hyc hFl hr ho4 hb4
                  go_wp2_with (at_builtin; refine wpList_append_run' rfl _ _ _ rfl _ _ _ _ rfl rfl HR.out ?_)
                  exact ⟨⟨j + 1, by omega, by go_num, by rw [HF.out]; exact HO4, HB4⟩, by simp [intOf]; omega⟩
              · have hjn : j = R.cache.length := by omega
                subst hjn
                have ho := HO.out
                rw [List.take_length] at ho
                obtain ⟨k1, k2, ⟨V2, hp⟩, hb⟩ := H1.out.lay (k := 1) (by omega) HB.out ho HLP.out
                obtain ⟨a7, cp7, hv7⟩ := H1.out.rowsK (k := 1) (by omega)
                rw [hv7] at k1
                obtain ⟨a8, cp8, rfl, _⟩ := own_form ho
                have HP : Hid (RsC (wr.setCell ⟨p, 3, none⟩ _) lo p L V2 _) := Lib.hid hp
                have HB8 : Hid (Sv lo w (wr.setCell ⟨p, 3, none⟩ _)) := Lib.hid (HB1.out.trans hb)
                have k4 : wr.frozen? ⟨p, 3, none⟩ = false := k2
                clear hp hb k1 k2 ho hv7 hf hv hr1
                go_wp2
                go_ret
                exact HPO.out _ _ _ HEX.out HP.out HB8.out
          · have g1 : (0 : Int) < r := by omega
            have g2 : IntKind.i64.wrap ((r : Int) - 1) = ((r - 1 : Nat) : Int) := by rw [IntKind.wrap_i64]; omega
            have g3 : (r : Int) - 1 = ((r - 1 : Nat) : Int) := by omega
            have HNX : Hid (k + 1 < R.wt.length ∧ wfor R.wt c (k + 1) + (r - 1) = i) := Lib.hid (by
              have h1 := HW1.out
              have h2 := HK.out
              refine ⟨Nat.lt_of_not_le fun hle => ?_, by omega⟩
              have := wfor_mono R.wt c hle
              rw [HM.out] at this
              omega)
            clear hr0
            go_wp2
            exact ⟨⟨k + 1, r - 1, HNX.out.1, by omega, by go_num, rfl, Lib.hid HNX.out.2, trivial⟩, by simp [intOf]; omega⟩
        · have q1 : ((y.f : Int) != c) = true := by simpa using hyc
          have q2 : ((y.f : Int) == c) = false := by simpa using hyc
          have HNX : Hid (k + 1 < R.wt.length ∧ wfor R.wt c (k + 1) + r = i) := Lib.hid (by
            have h1 : wfor R.wt c (k + 1) = wfor R.wt c k + 0 := by show wfor R.wt c k + (if ((R.wt.getD k iz).f : Int) = c then 1 else 0) = _; rw [HYE.out, if_neg hyc]
            have h2 := HK.out
            refine ⟨Nat.lt_of_not_le fun hle => ?_, by omega⟩
            have := wfor_mono R.wt c hle
            rw [HM.out] at this
            omega)
          clear hyc
          go_wp2
          exact ⟨⟨k + 1, r, HNX.out.1, by omega, by go_num, rfl, Lib.hid HNX.out.2, trivial⟩, by simp [intOf]; omega⟩
    · go_enter Try.func38, Try.ntmps38
      go_wp2_with (go_at_call 49; refine HWT.out.mono ?_; rintro e w1 ⟨rfl, h1⟩; obtain rfl := h1.symm)
      clear q1 q2 q3 hneg
      try clear hi1 hi2
      go_loopw [2, 8] (fun s2 s8 wr => ∃ k r : Nat, k < R.wt.length ∧ r ≤ 1000000 ∧ s8 = .int .i64 k ∧ s2 = .int .i64 r ∧ Hid (wfor R.wt c k + r = i) ∧ wr = w) (fun _ s8 _ => R.wt.length - (intOf s8).toNat)
      case atStart => exact ⟨0, i, by omega, by omega, rfl, rfl, Lib.hid (Nat.zero_add i), rfl⟩
      case round =>
        obtain ⟨k, r, hk, hr, rfl, rfl, HK, hwr⟩ := hrel
        obtain rfl := hwr.symm
        obtain ⟨i1, i2, i3⟩ := ivL_get R.wt k hk
        have e1 := (own_cells HR3.out).1 _ _ i1
        have e3 := (own_cells HR3.out).1 _ _ i3
        have gk : (k : Int) < R.wt.length := by omega
        have gk0 : (0 : Int) ≤ k := by omega
        have HKL := Lib.hid hk
        have HY : Hid (∃ y, R.wt.getD k iz = y) := Lib.hid ⟨_, rfl⟩
        obtain ⟨y, hy⟩ := HY.out
        have HYE := Lib.hid hy
        rw [hy] at e1 e3
        clear i1 i2 i3 hy HY
        by_cases hyc : (y.f : Int) = c
        · have q1 : ((y.f : Int) != c) = false := by simp [hyc]
          have q2 : ((y.f : Int) == c) = true := by simp [hyc]
          have HYC := Lib.hid hyc
          have HW1 : Hid (wfor R.wt c (k + 1) = wfor R.wt c k + 1) := Lib.hid (by show wfor R.wt c k + (if ((R.wt.getD k iz).f : Int) = c then 1 else 0) = _; rw [HYE.out, if_pos hyc])
          clear hyc
          by_cases hr0 : r = 0
          · subst hr0
            have HEX : Hid (DelTo R c n ((R.withW (R.wt.eraseIdx k)).setL 1 (R.cache.filter (delQ c y.l)))) := Lib.hid (.inr ⟨by rw [HM.out]; omega, k, HKL.out, by rw [HYE.out]; exact HYC.out, by rw [HM.out, HIM.out]; have := HK.out; omega, by rw [HYE.out]⟩)
            clear HW1 HYC HYE HK hr
            generalize y.l = ln at e3 HEX
            have hcp := HCPL.out
            have hwl := HWL.out
            obtain ⟨hs1, hs2⟩ := own_srcs HR3.out (ivL_one R.wt) HKL.out
            have HU1 : Hid (sliced (some ⟨g, 0, none⟩) 0 k cp 3 = .slice (some ⟨g, 0, none⟩) k cp) := Lib.hid (by unfold sliced; split <;> simp [Go.WideShapes.add_plain])
            have HU2 : Hid (sliced (some ⟨g, 0, none⟩) (k + 1) R.wt.length cp 3 = .slice (some (if cp = k + 1 then ⟨g, 0, none⟩ else ⟨g, (k + 1) * 3, none⟩)) (R.wt.length - (k + 1)) (cp - (k + 1))) := Lib.hid (by unfold sliced; split <;> simp [Go.WideShapes.add_plain])
            obtain ⟨u1, hu1⟩ : ∃ u1, Value.slice (some ⟨g, 0, none⟩) k cp = u1 := ⟨_, rfl⟩
            obtain ⟨u2, hu2⟩ : ∃ u2, Value.slice (some (if cp = k + 1 then ⟨g, 0, none⟩ else ⟨g, (k + 1) * 3, none⟩)) (R.wt.length - (k + 1)) (cp - (k + 1)) = u2 := ⟨_, rfl⟩
            rw [hu1] at hs1 HU1
            rw [hu2] at hs2 HU2
            clear hu1 hu2
            have HLG2 := Lib.hid (HLG.out k HKL.out)
            have HCW : Hid (w.cell? ⟨p, 5, none⟩ = some (.slice (some ⟨g, 0, none⟩) R.wt.length cp)) := Lib.hid HC5.out
            have HCP : Hid (w.drew.cell? ⟨p, 5, none⟩ = some (.slice (some ⟨g, 0, none⟩) R.wt.length cp)) := Lib.hid HC5.out
            have HB0 : Hid (Below w.heap.size w (w.drew.alloc (.cells #[] 118))) := Lib.hid ((below_drewN (Below.refl _ _) 1).alloc (Nat.le_refl _) _)
            have HC0 := Lib.hid ((HB0.out.cell (p := ⟨p, 5, none⟩) HPL.out).trans HCW.out)
            have HO0 : Hid ((w.drew.alloc (.cells #[] 118)).ownsRow w.heap.size 118 3 (.slice (some ⟨w.drew.heap.size, 0, none⟩) 0 0) 0 []) := Lib.hid (World.ownsRow_made w.drew #[] 0 (Nat.le_refl _) (by unfold maxLen; omega) rfl)
            have HS1 := Lib.hid (hs1.past HB0.out)
            have HS2 : Hid (∀ W, Below w.heap.size w W → Src W 3 u2 (R.wt.length - (k + 1)) ((ivL R.wt).drop ((k + 1) * 3))) := Lib.hid (fun W hb => hs2.past hb)
            have hkl := HKL.out
            have k1 : IntKind.i64.wrap ((k : Int) + 1) = (k : Int) + 1 := by rw [IntKind.wrap_i64]; omega
            have k2 : (k : Int) ≤ cp := by omega
            have k3 : (k : Int) + 1 ≤ R.wt.length := by omega
            have k4 : ((R.wt.length : Nat) : Int) ≤ cp := by omega
            have k6 : (0 : Int) ≤ (k : Int) + 1 := by omega
            have k7 : (k : Int) + 1 ≤ cp := by omega
            generalize hx1 : (ivL R.wt).take (k * 3) = x1 at hs1 HLG2 HS1
            generalize hx2 : (ivL R.wt).drop ((k + 1) * 3) = x2 at hs2 HLG2 HS2
            clear hx1 hx2 hs1 hs2 HLG
            go_upto_region 13 with (fail)
            generalize hn2 : R.wt.length = n2 at *
            refine region_e 19 (fun w' => w'.cell? ⟨p, 5, none⟩ = some (.slice (some ⟨g, 0, none⟩) n2 cp)) (by kernel_rfl) HCP.out (fun hHeld => ?_)
            refine AnyE.take (i := 0) (oi := { dst := some 58, op := Go.Op.move (Go.Operand.tmp 0), type := 40, pos := "ref.go:203", after := #[], guard := none }) (v := ?_) rfl (by kernel_rfl) (by kernel_rfl) (by kernel_rfl) (by kernel_rfl) (fun _ _ _ h => h) (Or.inl ⟨by rfl, ?_⟩) (by assumption) ?_
            rotate_left
            · (intro w0 hSw; (try dsimp only at hSw); go_split_ands; go_simp; with_reducible rfl)
            try simp only [Act.put, List.setIfInBounds_toArray, List.set_cons_zero, List.set_cons_succ]
            refine AnyE.take (i := 2) (oi := { dst := some 60, op := Go.Op.move (Go.Operand.tmp 0), type := 40, pos := "ref.go:203", after := #[], guard := none }) (v := ?_) rfl (by kernel_rfl) (by kernel_rfl) (by kernel_rfl) (by kernel_rfl) (fun _ _ _ h => h) (Or.inl ⟨by rfl, ?_⟩) (by assumption) ?_
            rotate_left
            · (intro w0 hSw; (try dsimp only at hSw); go_split_ands; go_simp; with_reducible rfl)
            try simp only [Act.put, List.setIfInBounds_toArray, List.set_cons_zero, List.set_cons_succ]
            refine AnyE.take (i := 3) (oi := { dst := some 61, op := Go.Op.nilCheck (Go.Operand.tmp 60), type := 0, pos := "ref.go:203", after := #[{ on := 2, ground := Go.Ground.data }], guard := none }) (v := ?_) rfl (by kernel_rfl) (by kernel_rfl) (by kernel_rfl) (by kernel_rfl) (fun _ _ _ h => h) (Or.inl ⟨by rfl, ?_⟩) (by assumption) ?_
            rotate_left
            · (intro w0 hSw; (try dsimp only at hSw); go_split_ands; go_simp; with_reducible rfl)
            try simp only [Act.put, List.setIfInBounds_toArray, List.set_cons_zero, List.set_cons_succ]
            refine AnyE.take (i := 4) (oi := { dst := some 62, op := Go.Op.fieldAddr 85 (Go.Operand.tmp 61) 5, type := 0, pos := "ref.go:203", after := #[{ on := 3, ground := Go.Ground.data }], guard := none }) (v := ?_) rfl (by kernel_rfl) (by kernel_rfl) (by kernel_rfl) (by kernel_rfl) (fun _ _ _ h => h) (Or.inl ⟨by rfl, ?_⟩) (by assumption) ?_
            rotate_left
            · (intro w0 hSw; (try dsimp only at hSw); go_split_ands; go_simp; with_reducible rfl)
            try simp only [Act.put, List.setIfInBounds_toArray, List.set_cons_zero, List.set_cons_succ]
            refine AnyE.take (i := 5) (oi := { dst := some 63, op := Go.Op.load 83 (Go.Operand.tmp 62), type := 83, pos := "ref.go:203", after := #[{ on := 4, ground := Go.Ground.data }], guard := none }) (v := ?_) rfl (by kernel_rfl) (by kernel_rfl) (by kernel_rfl) (by kernel_rfl) (fun _ _ _ h => h) (Or.inl ⟨by rfl, ?_⟩) (by assumption) ?_
            rotate_left
            · (intro w0 hSw; (try dsimp only at hSw); go_split_ands; go_simp; with_reducible rfl)
            try simp only [Act.put, List.setIfInBounds_toArray, List.set_cons_zero, List.set_cons_succ]
            refine AnyE.take (i := 6) (oi := { dst := some 64, op := Go.Op.move (Go.Operand.tmp 8), type := 3, pos := "ref.go:203", after := #[], guard := none }) (v := ?_) rfl (by kernel_rfl) (by kernel_rfl) (by kernel_rfl) (by kernel_rfl) (fun _ _ _ h => h) (Or.inl ⟨by rfl, ?_⟩) (by assumption) ?_
            rotate_left
            · (intro w0 hSw; (try dsimp only at hSw); go_split_ands; go_simp; with_reducible rfl)
            try simp only [Act.put, List.setIfInBounds_toArray, List.set_cons_zero, List.set_cons_succ]
            refine AnyE.take (i := 7) (oi := { dst := some 65, op := Go.Op.slice 83 (Go.Operand.tmp 63) none (some (Go.Operand.tmp 64)) none, type := 83, pos := "ref.go:203", after := #[{ on := 5, ground := Go.Ground.data }, { on := 6, ground := Go.Ground.data }], guard := none }) (v := u1) rfl (by kernel_rfl) (by kernel_rfl) (by kernel_rfl) (by kernel_rfl) (fun _ _ _ h => h) (Or.inl ⟨by rfl, ?_⟩) (by assumption) ?_
            · (intro w0 hSw; rw [← HU1.out]; (try dsimp only at hSw); go_split_ands; go_simp)
            try simp only [Act.put, List.setIfInBounds_toArray, List.set_cons_zero, List.set_cons_succ]
            refine AnyE.take (i := 9) (oi := { dst := some 67, op := Go.Op.move (Go.Operand.tmp 0), type := 40, pos := "ref.go:203", after := #[], guard := none }) (v := ?_) rfl (by kernel_rfl) (by kernel_rfl) (by kernel_rfl) (by kernel_rfl) (fun _ _ _ h => h) (Or.inl ⟨by rfl, ?_⟩) (by assumption) ?_
            rotate_left
            · (intro w0 hSw; (try dsimp only at hSw); go_split_ands; go_simp; with_reducible rfl)
            try simp only [Act.put, List.setIfInBounds_toArray, List.set_cons_zero, List.set_cons_succ]
            refine AnyE.take (i := 10) (oi := { dst := some 68, op := Go.Op.nilCheck (Go.Operand.tmp 67), type := 0, pos := "ref.go:203", after := #[{ on := 9, ground := Go.Ground.data }], guard := none }) (v := ?_) rfl (by kernel_rfl) (by kernel_rfl) (by kernel_rfl) (by kernel_rfl) (fun _ _ _ h => h) (Or.inl ⟨by rfl, ?_⟩) (by assumption) ?_
            rotate_left
            · (intro w0 hSw; (try dsimp only at hSw); go_split_ands; go_simp; with_reducible rfl)
            try simp only [Act.put, List.setIfInBounds_toArray, List.set_cons_zero, List.set_cons_succ]
            refine AnyE.take (i := 11) (oi := { dst := some 69, op := Go.Op.fieldAddr 85 (Go.Operand.tmp 68) 5, type := 0, pos := "ref.go:203", after := #[{ on := 10, ground := Go.Ground.data }], guard := none }) (v := ?_) rfl (by kernel_rfl) (by kernel_rfl) (by kernel_rfl) (by kernel_rfl) (fun _ _ _ h => h) (Or.inl ⟨by rfl, ?_⟩) (by assumption) ?_
            rotate_left
            · (intro w0 hSw; (try dsimp only at hSw); go_split_ands; go_simp; with_reducible rfl)
            try simp only [Act.put, List.setIfInBounds_toArray, List.set_cons_zero, List.set_cons_succ]
            refine AnyE.take (i := 12) (oi := { dst := some 70, op := Go.Op.load 83 (Go.Operand.tmp 69), type := 83, pos := "ref.go:203", after := #[{ on := 11, ground := Go.Ground.data }], guard := none }) (v := ?_) rfl (by kernel_rfl) (by kernel_rfl) (by kernel_rfl) (by kernel_rfl) (fun _ _ _ h => h) (Or.inl ⟨by rfl, ?_⟩) (by assumption) ?_
            rotate_left
            · (intro w0 hSw; (try dsimp only at hSw); go_split_ands; go_simp; with_reducible rfl)
            try simp only [Act.put, List.setIfInBounds_toArray, List.set_cons_zero, List.set_cons_succ]
            refine AnyE.take (i := 13) (oi := { dst := some 71, op := Go.Op.move (Go.Operand.tmp 8), type := 3, pos := "ref.go:203", after := #[], guard := none }) (v := ?_) rfl (by kernel_rfl) (by kernel_rfl) (by kernel_rfl) (by kernel_rfl) (fun _ _ _ h => h) (Or.inl ⟨by rfl, ?_⟩) (by assumption) ?_
            rotate_left
            · (intro w0 hSw; (try dsimp only at hSw); go_split_ands; go_simp; with_reducible rfl)
            try simp only [Act.put, List.setIfInBounds_toArray, List.set_cons_zero, List.set_cons_succ]
            refine AnyE.take (i := 14) (oi := { dst := some 72, op := Go.Op.binOp Go.BinOp.add 3 (Go.Operand.tmp 71) (Go.Operand.const (Go.Value.int Go.IntKind.i64 1)) 3, type := 3, pos := "ref.go:203", after := #[{ on := 13, ground := Go.Ground.data }], guard := none }) (v := ?_) rfl (by kernel_rfl) (by kernel_rfl) (by kernel_rfl) (by kernel_rfl) (fun _ _ _ h => h) (Or.inl ⟨by rfl, ?_⟩) (by assumption) ?_
            rotate_left
            · (intro w0 hSw; (try dsimp only at hSw); go_split_ands; go_simp; with_reducible rfl)
            try simp only [Act.put, List.setIfInBounds_toArray, List.set_cons_zero, List.set_cons_succ]
            refine AnyE.take (i := 15) (oi := { dst := some 73, op := Go.Op.slice 83 (Go.Operand.tmp 70) (some (Go.Operand.tmp 72)) none none, type := 83, pos := "ref.go:203", after := #[{ on := 12, ground := Go.Ground.data }, { on := 14, ground := Go.Ground.data }], guard := none }) (v := u2) rfl (by kernel_rfl) (by kernel_rfl) (by kernel_rfl) (by kernel_rfl) (fun _ _ _ h => h) (Or.inl ⟨by rfl, ?_⟩) (by assumption) ?_
            · (intro w0 hSw; rw [← HU2.out]; (try dsimp only at hSw); go_split_ands; go_simp)
            try simp only [Act.put, List.setIfInBounds_toArray, List.set_cons_zero, List.set_cons_succ]
            refine AnyE.ready (rs := [1]) (by kernel_rfl) (by simp) ?_
            refine AllE.cons (o := { dst := some 59, op := Go.Op.buildSlice 83 0 #[], type := 83, pos := "ref.go:203", after := #[], guard := none }) rfl (fun K hK => ?_) AllE.nil
            go_simp
            refine hK.out _ _ HC0.out (fun hHeld => ?_)
            clear hK K
            try simp only [Act.put, List.setIfInBounds_toArray, List.set_cons_zero, List.set_cons_succ]
            obtain ⟨v4, W4, hr4, ho4, hg4, _⟩ := app_c el118 _ w.heap.size 0 k _ u1 [] _ HO0.out HS1.out (by omega) (by simp)
            have HB4 := Lib.hid (HB0.out.grown hg4 HB0.out.size (fun q hq => (HO0.out.lt q hq).1))
            have HC4 := Lib.hid ((HB4.out.cell (p := ⟨p, 5, none⟩) HPL.out).trans HCW.out)
            rw [Nat.zero_add] at ho4
            have HO4 := Lib.hid ho4
            have HR4 := Lib.hid hr4
            clear hr4 ho4 hg4
            refine AnyE.ready (rs := [8]) (by kernel_rfl) (by simp) ?_
            refine AllE.cons (o := { dst := some 66, op := Go.Op.call { callee := Go.Callee.builtin Go.Builtin.append, args := #[Go.Operand.tmp 59, Go.Operand.tmp 65], argTypes := #[83, 83] }, type := 83, pos := "ref.go:203", after := #[{ on := 1, ground := Go.Ground.data }, { on := 7, ground := Go.Ground.data }], guard := none }) rfl (fun K hK => ?_) AllE.nil
            refine step_append_run rfl _ _ _ rfl _ _ _ _ rfl (by rfl) HR4.out ?_
            refine hK.out _ _ HC4.out (fun hHeld => ?_)
            clear hK K
            try simp only [Act.put, List.setIfInBounds_toArray, List.set_cons_zero, List.set_cons_succ]
            obtain ⟨v9, W9, hr9, ho9, hg9, _⟩ := app_c el118 W4 w.heap.size k (n2 - (k + 1)) v4 u2 _ _ HO4.out (HS2.out _ HB4.out) (by omega) HB4.out.size
            have HB9 := Lib.hid (HB4.out.grown hg9 HB4.out.size (fun q hq => (HO4.out.lt q hq).1))
            have HC9 := Lib.hid ((HB9.out.cell (p := ⟨p, 5, none⟩) HPL.out).trans HCW.out)
            obtain ⟨d1, d2, ⟨V1, hp1⟩, hb1⟩ := HLG2.out W9 v9 HB9.out ho9
            have H1 : Hid (RsC (W9.setCell ⟨p, 5, none⟩ v9) lo p L V1 _) := Lib.hid hp1
            have HB1 : Hid (Sv lo w (W9.setCell ⟨p, 5, none⟩ v9)) := Lib.hid hb1
            have d4 : W9.frozen? ⟨p, 5, none⟩ = false := d2
            have HR9 := Lib.hid hr9
            obtain ⟨a4, cp4, rfl, _⟩ := own_form ho9
            clear hr9 ho9 hg9 hp1 hb1 d1 d2
            refine AnyE.ready (rs := [16]) (by kernel_rfl) (by simp) ?_
            refine AllE.cons (o := { dst := some 74, op := Go.Op.call { callee := Go.Callee.builtin Go.Builtin.append, args := #[Go.Operand.tmp 66, Go.Operand.tmp 73], argTypes := #[83, 83] }, type := 83, pos := "ref.go:203", after := #[{ on := 8, ground := Go.Ground.data }, { on := 15, ground := Go.Ground.data }, { on := 8, ground := Go.Ground.chain }], guard := none }) rfl (fun K hK => ?_) AllE.nil
            refine step_append_run rfl _ _ _ rfl _ _ _ _ rfl (by rfl) HR9.out ?_
            refine hK.out _ _ HC9.out (fun hHeld => ?_)
            clear hK K
            try simp only [Act.put, List.setIfInBounds_toArray, List.set_cons_zero, List.set_cons_succ]
            refine AnyE.ready (rs := [17]) (by kernel_rfl) (by simp) ?_
            refine AllE.cons (o := { dst := some 75, op := Go.Op.nilCheck (Go.Operand.tmp 58), type := 0, pos := "ref.go:203", after := #[{ on := 0, ground := Go.Ground.data }, { on := 0, ground := Go.Ground.phase }, { on := 1, ground := Go.Ground.phase }, { on := 2, ground := Go.Ground.phase }, { on := 3, ground := Go.Ground.phase }, { on := 4, ground := Go.Ground.phase }, { on := 5, ground := Go.Ground.phase }, { on := 6, ground := Go.Ground.phase }, { on := 7, ground := Go.Ground.phase }, { on := 8, ground := Go.Ground.phase }, { on := 9, ground := Go.Ground.phase }, { on := 10, ground := Go.Ground.phase }, { on := 11, ground := Go.Ground.phase }, { on := 12, ground := Go.Ground.phase }, { on := 13, ground := Go.Ground.phase }, { on := 14, ground := Go.Ground.phase }, { on := 15, ground := Go.Ground.phase }, { on := 16, ground := Go.Ground.phase }], guard := none }) rfl (fun K hK => ?_) AllE.nil
            go_simp
            refine hK.out _ _ HC9.out (fun hHeld => ?_)
            clear hK K
            try simp only [Act.put, List.setIfInBounds_toArray, List.set_cons_zero, List.set_cons_succ]
            refine AnyE.take (i := 18) (oi := { dst := some 76, op := Go.Op.fieldAddr 85 (Go.Operand.tmp 75) 5, type := 0, pos := "ref.go:203", after := #[{ on := 17, ground := Go.Ground.data }, { on := 0, ground := Go.Ground.phase }, { on := 1, ground := Go.Ground.phase }, { on := 2, ground := Go.Ground.phase }, { on := 3, ground := Go.Ground.phase }, { on := 4, ground := Go.Ground.phase }, { on := 5, ground := Go.Ground.phase }, { on := 6, ground := Go.Ground.phase }, { on := 7, ground := Go.Ground.phase }, { on := 8, ground := Go.Ground.phase }, { on := 9, ground := Go.Ground.phase }, { on := 10, ground := Go.Ground.phase }, { on := 11, ground := Go.Ground.phase }, { on := 12, ground := Go.Ground.phase }, { on := 13, ground := Go.Ground.phase }, { on := 14, ground := Go.Ground.phase }, { on := 15, ground := Go.Ground.phase }, { on := 16, ground := Go.Ground.phase }], guard := none }) (v := ?_) rfl (by kernel_rfl) (by kernel_rfl) (by kernel_rfl) (by kernel_rfl) (fun _ _ _ h => h) (Or.inl ⟨by rfl, ?_⟩) (by assumption) ?_
            rotate_left
            · (intro w0 hSw; (try dsimp only at hSw); go_split_ands; go_simp; with_reducible rfl)
            try simp only [Act.put, List.setIfInBounds_toArray, List.set_cons_zero, List.set_cons_succ]
            have d3 := HC9.out
            refine AnyE.ready (rs := [19]) (by kernel_rfl) (by simp) ?_
            refine AllE.last (o := { dst := none, op := Go.Op.store 83 (Go.Operand.tmp 76) (Go.Operand.tmp 74), type := 0, pos := "ref.go:203", after := #[{ on := 18, ground := Go.Ground.data }, { on := 16, ground := Go.Ground.data }, { on := 16, ground := Go.Ground.chain }, { on := 0, ground := Go.Ground.phase }, { on := 1, ground := Go.Ground.phase }, { on := 2, ground := Go.Ground.phase }, { on := 3, ground := Go.Ground.phase }, { on := 4, ground := Go.Ground.phase }, { on := 5, ground := Go.Ground.phase }, { on := 6, ground := Go.Ground.phase }, { on := 7, ground := Go.Ground.phase }, { on := 8, ground := Go.Ground.phase }, { on := 9, ground := Go.Ground.phase }, { on := 10, ground := Go.Ground.phase }, { on := 11, ground := Go.Ground.phase }, { on := 12, ground := Go.Ground.phase }, { on := 13, ground := Go.Ground.phase }, { on := 14, ground := Go.Ground.phase }, { on := 15, ground := Go.Ground.phase }, { on := 16, ground := Go.Ground.phase }], guard := none }) rfl (by kernel_rfl) (fun K hK => ?_)
            go_simp
            refine hK.out _ _ ?_
            clear hK K
            try simp only [Act.put, List.setIfInBounds_toArray, List.set_cons_zero, List.set_cons_succ]
            generalize W9.setCell ⟨p, 5, none⟩ (.slice a4 _ cp4) = W1 at H1 HB1 ⊢
            clear d3 d4 HR9 HC9 HB9 HR4 HO4 HC4 HB4 HS2 HS1 HO0 HC0 HB0 HCP HCW HLG2 HU1 HU2 k1 k2 k3 k4 k6 k7 e1 e3 q1 q2 c5 gk gk0 hHeld
            have hls : R.cache.length ≤ 1000000 := H1.out.small 1 (by omega)
            have hlp : (R.cache.filter (delQ c ln)).length ≤ 1000000 := Nat.le_trans (List.length_filter_le _ _) hls
            have HLP := Lib.hid hlp
            clear hlp
            go_wp2
            go_loopw [10, 11] (fun s10 s11 wr => ∃ j : Nat, j ≤ R.cache.length ∧ s11 = .int .i64 j ∧ Hid (wr.ownsRow W1.heap.size 115 3 s10 ((R.cache.take j).filter (delQ c ln)).length (clL ((R.cache.take j).filter (delQ c ln)))) ∧ Hid (Below W1.heap.size W1 wr)) (fun _ s11 _ => R.cache.length + 1 - (intOf s11).toNat)
            case atStart => exact ⟨0, by omega, rfl, Lib.hid ⟨rfl, .inl ⟨rfl, rfl⟩⟩, Lib.hid (Below.refl _ _)⟩
            case round =>
              obtain ⟨j, hj, rfl, HO, HB⟩ := hrel
              have HS := Lib.hid (H1.out.past HB.out)
              have hr1 : wr.ownsRow 0 115 3 (V1 1) R.cache.length (clL R.cache) := HS.out.row1
              obtain ⟨_, _, _, c3, _⟩ := HS.out.cells
              obtain ⟨pb, cpb, hv, hf⟩ := own_form hr1
              rw [hv] at c3
              by_cases hlt : j < R.cache.length
              · obtain ⟨gb, rfl⟩ : ∃ g, pb = some ⟨g, 0, none⟩ := by
                  rcases hf with hf | hf
                  · omega
                  · exact hf
                have HRb := Lib.hid hr1
                rw [hv] at HRb
                obtain ⟨i1, i2, i3⟩ := clL_get R.cache j hlt
                have e1 := (own_cells HRb.out).1 _ _ i1
                have e2 := (own_cells HRb.out).1 _ _ i2
                have e3 := (own_cells HRb.out).1 _ _ i3
                have gj : (j : Int) < R.cache.length := by omega
                have HST := Lib.hid (filt_step (delQ c ln) cz R.cache j hlt)
                have hFl : ((R.cache.take j).filter (delQ c ln)).length < 1000000 := by
                  have : ((R.cache.take j).filter (delQ c ln)).length ≤ (R.cache.take j).length := List.length_filter_le _ _
                  rw [List.length_take] at this
                  omega
                have hya : (R.cache.getD j cz).a < 18446744073709551616 := HA.out _ (by rw [List.getD_eq_getElem?_getD, List.getElem?_eq_getElem hlt]; exact List.getElem_mem hlt)
                generalize R.cache.getD j cz = y at e1 e2 e3 HST hya
                have d1 : (y.a : Int) / 64 = ((y.a / 64 : Nat) : Int) := by omega
                have d2 : (y.a : Int).tdiv 64 = ((y.a / 64 : Nat) : Int) := by rw [Int.tdiv_eq_ediv_of_nonneg (by omega)]; omega
                have d3 : IntKind.u64.wrap ((y.a / 64 : Nat) : Int) = ((y.a / 64 : Nat) : Int) := by rw [IntKind.wrap_u64]; omega
                clear hya
                have HQQ : Hid (delQ c ln y = (y.c != c || y.a / 64 != ln)) := Lib.hid rfl
                generalize y.a / 64 = yl at d1 d2 d3 HQQ
                clear i1 i2 i3 hv hf hr1
                by_cases hyc : y.c = c
                · have q1 : (y.c != c) = false := by simp [hyc]
                  have q2 : (y.c == c) = true := by simp [hyc]
                  by_cases hyl : yl = ln
                  · have q3 : ((yl : Int) != (ln : Int)) = false := by simp [hyl]
                    have q4 : ((yl : Int) == (ln : Int)) = true := by simp [hyl]
                    have q5 : (yl != ln) = false := by simp [hyl]
                    have q6 : (yl == ln) = true := by simp [hyl]
                    have HF : Hid ((R.cache.take (j + 1)).filter (delQ c ln) = (R.cache.take j).filter (delQ c ln)) := Lib.hid (by rw [HST.out, if_neg (by rw [HQQ.out, q1, hyl]; simp), List.append_nil])
                    clear hyc hyl hFl
                    go_wp2
                    exact ⟨⟨j + 1, by omega, by go_num, by rw [HF.out]; exact HO, HB⟩, by simp [intOf]; omega⟩
                  · have q3 : ((yl : Int) != (ln : Int)) = true := by simp; omega
                    have q4 : ((yl : Int) == (ln : Int)) = false := by simp; omega
                    have q5 : (yl != ln) = true := by simpa using hyl
                    have q6 : (yl == ln) = false := by simpa using hyl
                    have HF : Hid ((R.cache.take (j + 1)).filter (delQ c ln) = (R.cache.take j).filter (delQ c ln) ++ [y]) := Lib.hid (by rw [HST.out, if_pos (by rw [HQQ.out, q1]; simpa using hyl)])
                    obtain ⟨v', w4, hr, ho4, hb4⟩ := keep_c HB.out HO.out hFl y
                    have HR := Lib.hid hr
                    have HO4 := Lib.hid ho4
                    have HB4 := Lib.hid hb4
                    clear hyc hyl hFl hr ho4 hb4
                    go_wp2_with (at_builtin; refine wpList_append_run' rfl _ _ _ rfl _ _ _ _ rfl rfl HR.out ?_)
                    exact ⟨⟨j + 1, by omega, by go_num, by rw [HF.out]; exact HO4, HB4⟩, by simp [intOf]; omega⟩
                · have q1 : (y.c != c) = true := by simpa using hyc
                  have q2 : (y.c == c) = false := by simpa using hyc
                  have HF : Hid ((R.cache.take (j + 1)).filter (delQ c ln) = (R.cache.take j).filter (delQ c ln) ++ [y]) := Lib.hid (by rw [HST.out, if_pos (by rw [HQQ.out, q1]; rfl)])
                  obtain ⟨v', w4, hr, ho4, hb4⟩ := keep_c HB.out HO.out hFl y
                  have HR := Lib.hid hr
                  have HO4 := Lib.hid ho4
                  have HB4 := Lib.hid hb4
                  clear hyc hFl hr ho4 hb4
                  go_wp2_with (at_builtin; refine wpList_append_run' rfl _ _ _ rfl _ _ _ _ rfl rfl HR.out ?_)
                  exact ⟨⟨j + 1, by omega, by go_num, by rw [HF.out]; exact HO4, HB4⟩, by simp [intOf]; omega⟩
              · have hjn : j = R.cache.length := by omega
                subst hjn
                have ho := HO.out
                rw [List.take_length] at ho
                obtain ⟨k1, k2, ⟨V2, hp⟩, hb⟩ := H1.out.lay (k := 1) (by omega) HB.out ho HLP.out
                obtain ⟨a7, cp7, hv7⟩ := H1.out.rowsK (k := 1) (by omega)
                rw [hv7] at k1
                obtain ⟨a8, cp8, rfl, _⟩ := own_form ho
                have HP : Hid (RsC (wr.setCell ⟨p, 3, none⟩ _) lo p L V2 _) := Lib.hid hp
                have HB8 : Hid (Sv lo w (wr.setCell ⟨p, 3, none⟩ _)) := Lib.hid (HB1.out.trans hb)
                have k4 : wr.frozen? ⟨p, 3, none⟩ = false := k2
                clear hp hb k1 k2 ho hv7 hf hv hr1
                go_wp2
                go_ret
                exact HPO.out _ _ _ HEX.out HP.out HB8.out
          · have g1 : (0 : Int) < r := by omega
            have g2 : IntKind.i64.wrap ((r : Int) - 1) = ((r - 1 : Nat) : Int) := by rw [IntKind.wrap_i64]; omega
            have g3 : (r : Int) - 1 = ((r - 1 : Nat) : Int) := by omega
            have HNX : Hid (k + 1 < R.wt.length ∧ wfor R.wt c (k + 1) + (r - 1) = i) := Lib.hid (by
              have h1 := HW1.out
              have h2 := HK.out
              refine ⟨Nat.lt_of_not_le fun hle => ?_, by omega⟩
              have := wfor_mono R.wt c hle
              rw [HM.out] at this
              omega)
            clear hr0
            go_wp2
            exact ⟨⟨k + 1, r - 1, HNX.out.1, by omega, by go_num, rfl, Lib.hid HNX.out.2, trivial⟩, by simp [intOf]; omega⟩
        · have q1 : ((y.f : Int) != c) = true := by simpa using hyc
          have q2 : ((y.f : Int) == c) = false := by simpa using hyc
          have HNX : Hid (k + 1 < R.wt.length ∧ wfor R.wt c (k + 1) + r = i) := Lib.hid (by
            have h1 : wfor R.wt c (k + 1) = wfor R.wt c k + 0 := by show wfor R.wt c k + (if ((R.wt.getD k iz).f : Int) = c then 1 else 0) = _; rw [HYE.out, if_neg hyc]
            have h2 := HK.out
            refine ⟨Nat.lt_of_not_le fun hle => ?_, by omega⟩
            have := wfor_mono R.wt c hle
            rw [HM.out] at this
            omega)
          clear hyc
          go_wp2
          exact ⟨⟨k + 1, r, HNX.out.1, by omega, by go_num, rfl, Lib.hid HNX.out.2, trivial⟩, by simp [intOf]; omega⟩
end
end Go.Proofs.Ytjcbhomfggjmhaa.Mm
