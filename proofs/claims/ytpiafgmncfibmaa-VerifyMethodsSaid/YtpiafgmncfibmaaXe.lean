import Derived.Laws.BitsLemmas
import Derived.IntWalk
import Derived.Laws.BitsAllLaws
import Derived.Deep.DrawnRows
import Derived.Test.YtpiafgmncfibmaaXd
import Derived.Test.YtpiafgmncfibmaaVm
import Derived.Test.YtpiafgmncfibmaaVt
import Derived.Test.YtpiafgmncfibmaaRows
import Derived.WalkKit
import Derived.ProofKit
import Derived.OpenShut
import Derived.Deep.QuietTactic
import Derived.BigQuiet
import Derived.Outline
import Derived.WalkSmall
import Derived.WalkLawsBesides
import Derived.WalkSpells
import Derived.BigGuardPart
import Derived.RegionTactic
import Derived.Deep.RegionHeld3
import Derived.Lib.Hide
import Derived.Deep.MidRow
import Derived.Below
import Derived.Deep.RegionWith
import Derived.Deep.OwnRows
import Derived.Deep.AppendLies
import Derived.Deep.RegionLaw
import Derived.Deep.CutBlock
import Derived.Deep.DeepCutAuto
namespace Go.Proofs.Ytpiafgmncfibmaa.Vf
open Go.ChangeShapes Go.WideShapes Go.ChangeAt Go.RowKit
set_option linter.unusedVariables false

theorem locals_q (P : Pg) (A : Ad) (m : Nat) (w : World) (h1 : RowA w P A m) (h2 : RowL w P A m) (m1 : P.pn m ≤ 30000) (m2 : P.ln m ≤ 30000) : Calls Try.prog 113 #[.agg #[.slice (A.ppa m) (P.pn m) (A.ppc m), .int .i64 (P.rt m), .slice (A.lla m) (P.ln m) (A.llc m), .int .i64 (P.sk m), .slice (A.cda m) (P.cn m) (A.cdc m)]] w fun e w' => (∃ a' c', e = .returned (.slice a' (P.pn m + P.ln m) c')) ∧ Below w.heap.size w w' := by
  have h := locals_c (A.ppa m) (A.lla m) (A.cda m) (A.ppc m) (A.llc m) (P.cn m) (A.cdc m) (P.rt m) (P.sk m) ((List.range (P.pn m)).map (P.pt m)) ((List.range (P.ln m)).map (P.lt m)) w (Ints.of_row h1) (Ints.of_row h2) (by simpa using m1) (by simpa using m2)
  simp only [List.length_map, List.length_range] at h
  refine h.mono fun e w' hN => ?_
  obtain ⟨a', c', h1, _, _, _, h5⟩ := hN
  refine ⟨⟨a', c', ?_⟩, h5⟩
  rw [h1]
  simp
section

set_option maxRecDepth 100000 in
set_option maxHeartbeats 4000000 in
theorem named_c (P : Pg) (A : Ad) (m c : Nat) (a b : Int) (sz : Int) (w : World) (h : PgAt w P A) (hf : Fits P A) (hm : m < P.nm) (hpl : P.pn m + P.ln m ≤ 40) : Calls Try.prog 90 #[.agg (P.cells A), .int .i64 m, .agg (ret4 c a b sz)] w fun e w' => e = .returned (.bool (nmB P m c a b)) ∧ Below w.heap.size w w' := by
  have HP := Lib.hid h
  have HF := Lib.hid hf
  have hE : Below w.heap.size w ((w.alloc (.cells (P.cells A) 26)).alloc (.cells (ret4 c a b sz) 141)) := ((Below.refl _ _).alloc (Nat.le_refl _) _).alloc (by simp) _
  obtain ⟨bm, om, hma, hbm, hcm⟩ := h.m.resolve_left (by omega)
  have HM : Hid (∀ i, i < P.nm → _) := Lib.hid hcm
  have HMa := Lib.hid hma
  have hnm := hf.nm
  have hnc := hf.nc
  have hnp := hf.np
  unfold Big at hnm hnc hnp
  clear h hf hcm
  have hr : nmB P m c a b = if c = 1 then isIn a P.np else if c = 4 ∨ c = 5 then isIn a (P.pn m + P.ln m) else if c = 27 then isIn a P.nm else if c = 29 then isIn a P.nc
    else if c = 30 ∨ c = 31 then isIn a P.nc && isIn b (P.nf a.toNat) else if c = 32 ∨ c = 33 ∨ c = 34 then decide (a = 1 ∨ a = 2) else if c = 38 then isIn a P.nm && thr P a.toNat else true := rfl
  have HR := Lib.hid hr
  have hp1 : P.pn m ≤ 30000 := by omega
  have hl1 : P.ln m ≤ 30000 := by omega
  have HE := Lib.hid hE
  clear hr hE hma
  show Calls Try.prog 90 #[.agg #[.slice A.pa P.np A.pc, .slice A.ca P.nc A.cc, .slice A.ma P.nm A.mc], .int .i64 m, .agg #[.int .i64 c, .int .i64 a, .int .i64 b, .int .i64 sz]] w _
  replace HE : Hid (Below w.heap.size w ((w.alloc (.cells #[.slice A.pa P.np A.pc, .slice A.ca P.nc A.cc, .slice A.ma P.nm A.mc] 26)).alloc (.cells #[.int .i64 c, .int .i64 a, .int .i64 b, .int .i64 sz] 141))) := HE
  by_cases h1 : c = 1
  · subst h1
    rw [show nmB P m 1 a b = isIn a P.np from HR.out]
    go_enter Try.func90, Try.ntmps90
    go_wp2_with fail
    refine (in_c a P.np _).mono ?_
    rintro e w' ⟨rfl, rfl⟩
    go_wp2
    go_ret
    exact ⟨rfl, HE.out⟩
  by_cases h27 : c = 27
  · subst h27
    rw [show nmB P m 27 a b = isIn a P.nm from HR.out]
    go_enter Try.func90, Try.ntmps90
    go_wp2_with fail
    refine (in_c a P.nm _).mono ?_
    rintro e w' ⟨rfl, rfl⟩
    go_wp2
    go_ret
    exact ⟨rfl, HE.out⟩
  by_cases h29 : c = 29
  · subst h29
    rw [show nmB P m 29 a b = isIn a P.nc from HR.out]
    go_enter Try.func90, Try.ntmps90
    go_wp2_with fail
    refine (in_c a P.nc _).mono ?_
    rintro e w' ⟨rfl, rfl⟩
    go_wp2
    go_ret
    exact ⟨rfl, HE.out⟩
  by_cases h4 : c = 4
  · subst h4
    rw [show nmB P m 4 a b = isIn a (P.pn m + P.ln m) from HR.out]
    obtain ⟨x0, x1, x2, x3, x4⟩ := HM.out m hm
    have HLo : Hid (∀ V, Below w.heap.size w V → Calls Try.prog 113 #[.agg #[.slice (A.ppa m) (P.pn m) (A.ppc m), .int .i64 (P.rt m), .slice (A.lla m) (P.ln m) (A.llc m), .int .i64 (P.sk m), .slice (A.cda m) (P.cn m) (A.cdc m)]] V fun e w' => (∃ a' c', e = .returned (.slice a' (P.pn m + P.ln m) c')) ∧ Below V.heap.size V w') := Lib.hid fun V hV => locals_q P A m V ((HP.out.a m hm).kept (Kept.of hV)) ((HP.out.l m hm).kept (Kept.of hV)) hp1 hl1
    rw [HMa.out] at HE ⊢
    have hi : (m : Int) < P.nm := by omega
    obtain ⟨W, hW⟩ : ∃ q, q = (w.alloc (.cells #[.slice A.pa P.np A.pc, .slice A.ca P.nc A.cc, .slice (some ⟨bm, om, none⟩) P.nm A.mc] 26)).alloc (.cells #[.int .i64 4, .int .i64 a, .int .i64 b, .int .i64 sz] 141) := ⟨_, rfl⟩
    have HX : Hid (∀ V, Below W.heap.size W V → V.cell? ⟨w.heap.size + 1, 1, none⟩ = some (.int .i64 a) ∧ V.cell? ⟨w.heap.size, 2, none⟩ = some (.slice (some ⟨bm, om, none⟩) P.nm A.mc) ∧ V.cell? ⟨bm, om + m * 5, none⟩ = some (.slice (A.ppa m) (P.pn m) (A.ppc m)) ∧ V.cell? ⟨bm, om + m * 5 + 1, none⟩ = some (.int .i64 (P.rt m)) ∧ V.cell? ⟨bm, om + m * 5 + 2, none⟩ = some (.slice (A.lla m) (P.ln m) (A.llc m)) ∧ V.cell? ⟨bm, om + m * 5 + 3, none⟩ = some (.int .i64 (P.sk m)) ∧ V.cell? ⟨bm, om + m * 5 + 4, none⟩ = some (.slice (A.cda m) (P.cn m) (A.cdc m))) := Lib.hid fun V hV => by
      have h1 : Bx W w.heap.size #[.slice A.pa P.np A.pc, .slice A.ca P.nc A.cc, .slice (some ⟨bm, om, none⟩) P.nm A.mc] 26 := by rw [hW]; exact (Bx.new w _ 26).alloc _
      have h2 : Bx W (w.heap.size + 1) #[.int .i64 4, .int .i64 a, .int .i64 b, .int .i64 sz] 141 := by
        have h9 := Bx.new (w.alloc (.cells #[.slice A.pa P.np A.pc, .slice A.ca P.nc A.cc, .slice (some ⟨bm, om, none⟩) P.nm A.mc] 26)) #[.int .i64 4, .int .i64 a, .int .i64 b, .int .i64 sz] 141
        rw [World.size_alloc] at h9
        rw [hW]; exact h9
      have hb : Below w.heap.size w V := by
        have h3 : Below w.heap.size w W := by rw [hW]; exact HE.out
        exact h3.trans (hV.mono h3.size)
      exact ⟨(h2.below hV).cell 1, (h1.below hV).cell 2, (hb.cell (p := ⟨bm, om + m * 5, none⟩) hbm).trans x0, (hb.cell (p := ⟨bm, om + m * 5 + 1, none⟩) hbm).trans x1, (hb.cell (p := ⟨bm, om + m * 5 + 2, none⟩) hbm).trans x2, (hb.cell (p := ⟨bm, om + m * 5 + 3, none⟩) hbm).trans x3, (hb.cell (p := ⟨bm, om + m * 5 + 4, none⟩) hbm).trans x4⟩
    have HBW : Hid (Below w.heap.size w W) := Lib.hid (by rw [hW]; exact HE.out)
    have HW := Lib.hid hW
    clear hW x0 x1 x2 x3 x4
    go_enter Try.func90, Try.ntmps90
    go_upto_region 6 with fail
    rw [← HW.out]
    refine region_e 10 (fun w' => w'.cell? ⟨w.heap.size + 1, 1, none⟩ = some (.int .i64 a) ∧ w'.cell? ⟨w.heap.size, 2, none⟩ = some (.slice (some ⟨bm, om, none⟩) P.nm A.mc) ∧ w'.cell? ⟨bm, om + m * 5, none⟩ = some (.slice (A.ppa m) (P.pn m) (A.ppc m)) ∧ w'.cell? ⟨bm, om + m * 5 + 1, none⟩ = some (.int .i64 (P.rt m)) ∧ w'.cell? ⟨bm, om + m * 5 + 2, none⟩ = some (.slice (A.lla m) (P.ln m) (A.llc m)) ∧ w'.cell? ⟨bm, om + m * 5 + 3, none⟩ = some (.int .i64 (P.sk m)) ∧ w'.cell? ⟨bm, om + m * 5 + 4, none⟩ = some (.slice (A.cda m) (P.cn m) (A.cdc m))) (by kernel_rfl) (HX.out _ (Below.refl _ _).drew) (fun hHeld => ?_)
    refine AnyE.take2 (i := 0) [] (oi := { dst := some 21, op := Go.Op.fieldAddr 141 (Go.Operand.tmp 5) 1, type := 0, pos := "ref.go:42", after := #[], guard := none }) (v := ?_) rfl (by kernel_rfl) (by kernel_rfl) (by kernel_rfl) (by kernel_rfl) (fun _ _ _ h => h) (Or.inl ⟨by rfl, ?_⟩) (by assumption) ?_
    rotate_left
    · (intro w0 hSw; (try dsimp only at hSw); go_split_ands; go_simp; with_reducible rfl)
    try simp only [Act.put, List.setIfInBounds_toArray, List.set_cons_zero, List.set_cons_succ]
    refine AnyE.take2 (i := 1) [] (oi := { dst := some 22, op := Go.Op.load 3 (Go.Operand.tmp 21), type := 3, pos := "ref.go:42", after := #[{ on := 0, ground := Go.Ground.data }], guard := none }) (v := ?_) rfl (by kernel_rfl) (by kernel_rfl) (by kernel_rfl) (by kernel_rfl) (fun _ _ _ h => h) (Or.inl ⟨by rfl, ?_⟩) (by assumption) ?_
    rotate_left
    · (intro w0 hSw; (try dsimp only at hSw); go_split_ands; go_simp; with_reducible rfl)
    try simp only [Act.put, List.setIfInBounds_toArray, List.set_cons_zero, List.set_cons_succ]
    refine AnyE.take2 (i := 2) [] (oi := { dst := some 23, op := Go.Op.fieldAddr 26 (Go.Operand.tmp 3) 2, type := 0, pos := "ref.go:42", after := #[], guard := none }) (v := ?_) rfl (by kernel_rfl) (by kernel_rfl) (by kernel_rfl) (by kernel_rfl) (fun _ _ _ h => h) (Or.inl ⟨by rfl, ?_⟩) (by assumption) ?_
    rotate_left
    · (intro w0 hSw; (try dsimp only at hSw); go_split_ands; go_simp; with_reducible rfl)
    try simp only [Act.put, List.setIfInBounds_toArray, List.set_cons_zero, List.set_cons_succ]
    refine AnyE.take2 (i := 3) [] (oi := { dst := some 24, op := Go.Op.load 24 (Go.Operand.tmp 23), type := 24, pos := "ref.go:42", after := #[{ on := 2, ground := Go.Ground.data }], guard := none }) (v := ?_) rfl (by kernel_rfl) (by kernel_rfl) (by kernel_rfl) (by kernel_rfl) (fun _ _ _ h => h) (Or.inl ⟨by rfl, ?_⟩) (by assumption) ?_
    rotate_left
    · (intro w0 hSw; (try dsimp only at hSw); go_split_ands; go_simp; with_reducible rfl)
    try simp only [Act.put, List.setIfInBounds_toArray, List.set_cons_zero, List.set_cons_succ]
    refine AnyE.take2 (i := 4) [] (oi := { dst := some 25, op := Go.Op.move (Go.Operand.tmp 1), type := 3, pos := "ref.go:42", after := #[], guard := none }) (v := ?_) rfl (by kernel_rfl) (by kernel_rfl) (by kernel_rfl) (by kernel_rfl) (fun _ _ _ h => h) (Or.inl ⟨by rfl, ?_⟩) (by assumption) ?_
    rotate_left
    · (intro w0 hSw; (try dsimp only at hSw); go_split_ands; go_simp; with_reducible rfl)
    try simp only [Act.put, List.setIfInBounds_toArray, List.set_cons_zero, List.set_cons_succ]
    refine AnyE.take2 (i := 5) [] (oi := { dst := some 26, op := Go.Op.indexAddr 24 (Go.Operand.tmp 24) (Go.Operand.tmp 25), type := 0, pos := "ref.go:42", after := #[{ on := 3, ground := Go.Ground.data }, { on := 4, ground := Go.Ground.data }], guard := none }) (v := ?_) rfl (by kernel_rfl) (by kernel_rfl) (by kernel_rfl) (by kernel_rfl) (fun _ _ _ h => h) (Or.inl ⟨by rfl, ?_⟩) (by assumption) ?_
    rotate_left
    · (intro w0 hSw; (try dsimp only at hSw); go_split_ands; go_simp; with_reducible rfl)
    try simp only [Act.put, List.setIfInBounds_toArray, List.set_cons_zero, List.set_cons_succ]
    refine AnyE.take2 (i := 6) [] (oi := { dst := some 27, op := Go.Op.load 50 (Go.Operand.tmp 26), type := 50, pos := "ref.go:42", after := #[{ on := 5, ground := Go.Ground.data }], guard := none }) (v := ?_) rfl (by kernel_rfl) (by kernel_rfl) (by kernel_rfl) (by kernel_rfl) (fun _ _ _ h => h) (Or.inl ⟨by rfl, ?_⟩) (by assumption) ?_
    rotate_left
    · (intro w0 hSw; (try dsimp only at hSw); go_split_ands; go_simp; with_reducible rfl)
    try simp only [Act.put, List.setIfInBounds_toArray, List.set_cons_zero, List.set_cons_succ]
    refine AnyE.ready (rs := [7]) (by kernel_rfl) (by simp) ?_
    refine AllE.cons (o := { dst := some 28, op := Go.Op.call { callee := Go.Callee.value (Go.Operand.func 113), args := #[Go.Operand.tmp 27], argTypes := #[50] }, type := 48, pos := "ref.go:42", after := #[{ on := 6, ground := Go.Ground.data }], guard := none }) rfl (fun KK hKK => ?_) AllE.nil
    go_simp
    go_at_call 113
    refine (HLo.out _ HBW.out.drew).mono ?_
    rintro e u1 ⟨⟨a', c', rfl⟩, hb5⟩
    have hb6 : Below W.heap.size W u1 := (Below.refl _ _).drew.trans hb5
    have HB6 := Lib.hid hb6
    clear hb5 hb6
    refine hKK.out _ _ (HX.out _ HB6.out) (fun hHeld => ?_)
    clear hKK KK
    try simp only [Act.put, List.setIfInBounds_toArray, List.set_cons_zero, List.set_cons_succ]
    refine AnyE.take2 (i := 8) [] (oi := { dst := some 29, op := Go.Op.call { callee := Go.Callee.builtin Go.Builtin.len, args := #[Go.Operand.tmp 28], argTypes := #[48] }, type := 3, pos := "ref.go:42", after := #[{ on := 7, ground := Go.Ground.data }], guard := none }) (v := ?_) rfl (by kernel_rfl) (by kernel_rfl) (by kernel_rfl) (by kernel_rfl) (fun _ _ _ h => h) (Or.inl ⟨by rfl, ?_⟩) (by assumption) ?_
    rotate_left
    · (intro w0 hSw; (try dsimp only at hSw); go_split_ands; go_simp; with_reducible rfl)
    try simp only [Act.put, List.setIfInBounds_toArray, List.set_cons_zero, List.set_cons_succ]
    refine AnyE.ready (rs := [9]) (by kernel_rfl) (by simp) ?_
    refine AllE.cons (o := { dst := some 30, op := Go.Op.call { callee := Go.Callee.value (Go.Operand.func 87), args := #[Go.Operand.tmp 22, Go.Operand.tmp 29], argTypes := #[3, 3] }, type := 4, pos := "ref.go:42", after := #[{ on := 1, ground := Go.Ground.data }, { on := 8, ground := Go.Ground.data }, { on := 7, ground := Go.Ground.chain }], guard := none }) rfl (fun KK hKK => ?_) AllE.nil
    go_simp
    go_at_call 87
    refine (in_c a (P.pn m + P.ln m) _).mono ?_
    rintro e u2 ⟨rfl, rfl⟩
    refine hKK.out _ _ (HX.out _ HB6.out) (fun hHeld => ?_)
    clear hKK KK
    try simp only [Act.put, List.setIfInBounds_toArray, List.set_cons_zero, List.set_cons_succ]
    refine AnyE.ready (rs := [10]) (by kernel_rfl) (by simp) ?_
    refine AllE.last (o := { dst := some 6, op := Go.Op.assign (Go.Operand.tmp 30), type := 4, pos := "ref.go:42", after := #[{ on := 9, ground := Go.Ground.data }, { on := 9, ground := Go.Ground.chain }, { on := 0, ground := Go.Ground.phase }, { on := 1, ground := Go.Ground.phase }, { on := 2, ground := Go.Ground.phase }, { on := 3, ground := Go.Ground.phase }, { on := 4, ground := Go.Ground.phase }, { on := 5, ground := Go.Ground.phase }, { on := 6, ground := Go.Ground.phase }, { on := 7, ground := Go.Ground.phase }, { on := 8, ground := Go.Ground.phase }, { on := 9, ground := Go.Ground.phase }], guard := none }) rfl (by kernel_rfl) (fun KK hKK => ?_)
    go_simp
    refine hKK.out _ _ ?_
    clear hKK KK
    try simp only [Act.put, List.setIfInBounds_toArray, List.set_cons_zero, List.set_cons_succ]
    go_wp2
    go_ret
    exact ⟨rfl, HBW.out.trans (HB6.out.mono HBW.out.size)⟩
  by_cases h5 : c = 5
  · subst h5
    rw [show nmB P m 5 a b = isIn a (P.pn m + P.ln m) from HR.out]
    obtain ⟨x0, x1, x2, x3, x4⟩ := HM.out m hm
    have HLo : Hid (∀ V, Below w.heap.size w V → Calls Try.prog 113 #[.agg #[.slice (A.ppa m) (P.pn m) (A.ppc m), .int .i64 (P.rt m), .slice (A.lla m) (P.ln m) (A.llc m), .int .i64 (P.sk m), .slice (A.cda m) (P.cn m) (A.cdc m)]] V fun e w' => (∃ a' c', e = .returned (.slice a' (P.pn m + P.ln m) c')) ∧ Below V.heap.size V w') := Lib.hid fun V hV => locals_q P A m V ((HP.out.a m hm).kept (Kept.of hV)) ((HP.out.l m hm).kept (Kept.of hV)) hp1 hl1
    rw [HMa.out] at HE ⊢
    have hi : (m : Int) < P.nm := by omega
    obtain ⟨W, hW⟩ : ∃ q, q = (w.alloc (.cells #[.slice A.pa P.np A.pc, .slice A.ca P.nc A.cc, .slice (some ⟨bm, om, none⟩) P.nm A.mc] 26)).alloc (.cells #[.int .i64 5, .int .i64 a, .int .i64 b, .int .i64 sz] 141) := ⟨_, rfl⟩
    have HX : Hid (∀ V, Below W.heap.size W V → V.cell? ⟨w.heap.size + 1, 1, none⟩ = some (.int .i64 a) ∧ V.cell? ⟨w.heap.size, 2, none⟩ = some (.slice (some ⟨bm, om, none⟩) P.nm A.mc) ∧ V.cell? ⟨bm, om + m * 5, none⟩ = some (.slice (A.ppa m) (P.pn m) (A.ppc m)) ∧ V.cell? ⟨bm, om + m * 5 + 1, none⟩ = some (.int .i64 (P.rt m)) ∧ V.cell? ⟨bm, om + m * 5 + 2, none⟩ = some (.slice (A.lla m) (P.ln m) (A.llc m)) ∧ V.cell? ⟨bm, om + m * 5 + 3, none⟩ = some (.int .i64 (P.sk m)) ∧ V.cell? ⟨bm, om + m * 5 + 4, none⟩ = some (.slice (A.cda m) (P.cn m) (A.cdc m))) := Lib.hid fun V hV => by
      have h1 : Bx W w.heap.size #[.slice A.pa P.np A.pc, .slice A.ca P.nc A.cc, .slice (some ⟨bm, om, none⟩) P.nm A.mc] 26 := by rw [hW]; exact (Bx.new w _ 26).alloc _
      have h2 : Bx W (w.heap.size + 1) #[.int .i64 5, .int .i64 a, .int .i64 b, .int .i64 sz] 141 := by
        have h9 := Bx.new (w.alloc (.cells #[.slice A.pa P.np A.pc, .slice A.ca P.nc A.cc, .slice (some ⟨bm, om, none⟩) P.nm A.mc] 26)) #[.int .i64 5, .int .i64 a, .int .i64 b, .int .i64 sz] 141
        rw [World.size_alloc] at h9
        rw [hW]; exact h9
      have hb : Below w.heap.size w V := by
        have h3 : Below w.heap.size w W := by rw [hW]; exact HE.out
        exact h3.trans (hV.mono h3.size)
      exact ⟨(h2.below hV).cell 1, (h1.below hV).cell 2, (hb.cell (p := ⟨bm, om + m * 5, none⟩) hbm).trans x0, (hb.cell (p := ⟨bm, om + m * 5 + 1, none⟩) hbm).trans x1, (hb.cell (p := ⟨bm, om + m * 5 + 2, none⟩) hbm).trans x2, (hb.cell (p := ⟨bm, om + m * 5 + 3, none⟩) hbm).trans x3, (hb.cell (p := ⟨bm, om + m * 5 + 4, none⟩) hbm).trans x4⟩
    have HBW : Hid (Below w.heap.size w W) := Lib.hid (by rw [hW]; exact HE.out)
    have HW := Lib.hid hW
    clear hW x0 x1 x2 x3 x4
    go_enter Try.func90, Try.ntmps90
    go_upto_region 6 with fail
    rw [← HW.out]
    refine region_e 10 (fun w' => w'.cell? ⟨w.heap.size + 1, 1, none⟩ = some (.int .i64 a) ∧ w'.cell? ⟨w.heap.size, 2, none⟩ = some (.slice (some ⟨bm, om, none⟩) P.nm A.mc) ∧ w'.cell? ⟨bm, om + m * 5, none⟩ = some (.slice (A.ppa m) (P.pn m) (A.ppc m)) ∧ w'.cell? ⟨bm, om + m * 5 + 1, none⟩ = some (.int .i64 (P.rt m)) ∧ w'.cell? ⟨bm, om + m * 5 + 2, none⟩ = some (.slice (A.lla m) (P.ln m) (A.llc m)) ∧ w'.cell? ⟨bm, om + m * 5 + 3, none⟩ = some (.int .i64 (P.sk m)) ∧ w'.cell? ⟨bm, om + m * 5 + 4, none⟩ = some (.slice (A.cda m) (P.cn m) (A.cdc m))) (by kernel_rfl) (HX.out _ (Below.refl _ _).drew) (fun hHeld => ?_)
    refine AnyE.take2 (i := 0) [] (oi := { dst := some 21, op := Go.Op.fieldAddr 141 (Go.Operand.tmp 5) 1, type := 0, pos := "ref.go:42", after := #[], guard := none }) (v := ?_) rfl (by kernel_rfl) (by kernel_rfl) (by kernel_rfl) (by kernel_rfl) (fun _ _ _ h => h) (Or.inl ⟨by rfl, ?_⟩) (by assumption) ?_
    rotate_left
    · (intro w0 hSw; (try dsimp only at hSw); go_split_ands; go_simp; with_reducible rfl)
    try simp only [Act.put, List.setIfInBounds_toArray, List.set_cons_zero, List.set_cons_succ]
    refine AnyE.take2 (i := 1) [] (oi := { dst := some 22, op := Go.Op.load 3 (Go.Operand.tmp 21), type := 3, pos := "ref.go:42", after := #[{ on := 0, ground := Go.Ground.data }], guard := none }) (v := ?_) rfl (by kernel_rfl) (by kernel_rfl) (by kernel_rfl) (by kernel_rfl) (fun _ _ _ h => h) (Or.inl ⟨by rfl, ?_⟩) (by assumption) ?_
    rotate_left
    · (intro w0 hSw; (try dsimp only at hSw); go_split_ands; go_simp; with_reducible rfl)
    try simp only [Act.put, List.setIfInBounds_toArray, List.set_cons_zero, List.set_cons_succ]
    refine AnyE.take2 (i := 2) [] (oi := { dst := some 23, op := Go.Op.fieldAddr 26 (Go.Operand.tmp 3) 2, type := 0, pos := "ref.go:42", after := #[], guard := none }) (v := ?_) rfl (by kernel_rfl) (by kernel_rfl) (by kernel_rfl) (by kernel_rfl) (fun _ _ _ h => h) (Or.inl ⟨by rfl, ?_⟩) (by assumption) ?_
    rotate_left
    · (intro w0 hSw; (try dsimp only at hSw); go_split_ands; go_simp; with_reducible rfl)
    try simp only [Act.put, List.setIfInBounds_toArray, List.set_cons_zero, List.set_cons_succ]
    refine AnyE.take2 (i := 3) [] (oi := { dst := some 24, op := Go.Op.load 24 (Go.Operand.tmp 23), type := 24, pos := "ref.go:42", after := #[{ on := 2, ground := Go.Ground.data }], guard := none }) (v := ?_) rfl (by kernel_rfl) (by kernel_rfl) (by kernel_rfl) (by kernel_rfl) (fun _ _ _ h => h) (Or.inl ⟨by rfl, ?_⟩) (by assumption) ?_
    rotate_left
    · (intro w0 hSw; (try dsimp only at hSw); go_split_ands; go_simp; with_reducible rfl)
    try simp only [Act.put, List.setIfInBounds_toArray, List.set_cons_zero, List.set_cons_succ]
    refine AnyE.take2 (i := 4) [] (oi := { dst := some 25, op := Go.Op.move (Go.Operand.tmp 1), type := 3, pos := "ref.go:42", after := #[], guard := none }) (v := ?_) rfl (by kernel_rfl) (by kernel_rfl) (by kernel_rfl) (by kernel_rfl) (fun _ _ _ h => h) (Or.inl ⟨by rfl, ?_⟩) (by assumption) ?_
    rotate_left
    · (intro w0 hSw; (try dsimp only at hSw); go_split_ands; go_simp; with_reducible rfl)
    try simp only [Act.put, List.setIfInBounds_toArray, List.set_cons_zero, List.set_cons_succ]
    refine AnyE.take2 (i := 5) [] (oi := { dst := some 26, op := Go.Op.indexAddr 24 (Go.Operand.tmp 24) (Go.Operand.tmp 25), type := 0, pos := "ref.go:42", after := #[{ on := 3, ground := Go.Ground.data }, { on := 4, ground := Go.Ground.data }], guard := none }) (v := ?_) rfl (by kernel_rfl) (by kernel_rfl) (by kernel_rfl) (by kernel_rfl) (fun _ _ _ h => h) (Or.inl ⟨by rfl, ?_⟩) (by assumption) ?_
    rotate_left
    · (intro w0 hSw; (try dsimp only at hSw); go_split_ands; go_simp; with_reducible rfl)
    try simp only [Act.put, List.setIfInBounds_toArray, List.set_cons_zero, List.set_cons_succ]
    refine AnyE.take2 (i := 6) [] (oi := { dst := some 27, op := Go.Op.load 50 (Go.Operand.tmp 26), type := 50, pos := "ref.go:42", after := #[{ on := 5, ground := Go.Ground.data }], guard := none }) (v := ?_) rfl (by kernel_rfl) (by kernel_rfl) (by kernel_rfl) (by kernel_rfl) (fun _ _ _ h => h) (Or.inl ⟨by rfl, ?_⟩) (by assumption) ?_
    rotate_left
    · (intro w0 hSw; (try dsimp only at hSw); go_split_ands; go_simp; with_reducible rfl)
    try simp only [Act.put, List.setIfInBounds_toArray, List.set_cons_zero, List.set_cons_succ]
    refine AnyE.ready (rs := [7]) (by kernel_rfl) (by simp) ?_
    refine AllE.cons (o := { dst := some 28, op := Go.Op.call { callee := Go.Callee.value (Go.Operand.func 113), args := #[Go.Operand.tmp 27], argTypes := #[50] }, type := 48, pos := "ref.go:42", after := #[{ on := 6, ground := Go.Ground.data }], guard := none }) rfl (fun KK hKK => ?_) AllE.nil
    go_simp
    go_at_call 113
    refine (HLo.out _ HBW.out.drew).mono ?_
    rintro e u1 ⟨⟨a', c', rfl⟩, hb5⟩
    have hb6 : Below W.heap.size W u1 := (Below.refl _ _).drew.trans hb5
    have HB6 := Lib.hid hb6
    clear hb5 hb6
    refine hKK.out _ _ (HX.out _ HB6.out) (fun hHeld => ?_)
    clear hKK KK
    try simp only [Act.put, List.setIfInBounds_toArray, List.set_cons_zero, List.set_cons_succ]
    refine AnyE.take2 (i := 8) [] (oi := { dst := some 29, op := Go.Op.call { callee := Go.Callee.builtin Go.Builtin.len, args := #[Go.Operand.tmp 28], argTypes := #[48] }, type := 3, pos := "ref.go:42", after := #[{ on := 7, ground := Go.Ground.data }], guard := none }) (v := ?_) rfl (by kernel_rfl) (by kernel_rfl) (by kernel_rfl) (by kernel_rfl) (fun _ _ _ h => h) (Or.inl ⟨by rfl, ?_⟩) (by assumption) ?_
    rotate_left
    · (intro w0 hSw; (try dsimp only at hSw); go_split_ands; go_simp; with_reducible rfl)
    try simp only [Act.put, List.setIfInBounds_toArray, List.set_cons_zero, List.set_cons_succ]
    refine AnyE.ready (rs := [9]) (by kernel_rfl) (by simp) ?_
    refine AllE.cons (o := { dst := some 30, op := Go.Op.call { callee := Go.Callee.value (Go.Operand.func 87), args := #[Go.Operand.tmp 22, Go.Operand.tmp 29], argTypes := #[3, 3] }, type := 4, pos := "ref.go:42", after := #[{ on := 1, ground := Go.Ground.data }, { on := 8, ground := Go.Ground.data }, { on := 7, ground := Go.Ground.chain }], guard := none }) rfl (fun KK hKK => ?_) AllE.nil
    go_simp
    go_at_call 87
    refine (in_c a (P.pn m + P.ln m) _).mono ?_
    rintro e u2 ⟨rfl, rfl⟩
    refine hKK.out _ _ (HX.out _ HB6.out) (fun hHeld => ?_)
    clear hKK KK
    try simp only [Act.put, List.setIfInBounds_toArray, List.set_cons_zero, List.set_cons_succ]
    refine AnyE.ready (rs := [10]) (by kernel_rfl) (by simp) ?_
    refine AllE.last (o := { dst := some 6, op := Go.Op.assign (Go.Operand.tmp 30), type := 4, pos := "ref.go:42", after := #[{ on := 9, ground := Go.Ground.data }, { on := 9, ground := Go.Ground.chain }, { on := 0, ground := Go.Ground.phase }, { on := 1, ground := Go.Ground.phase }, { on := 2, ground := Go.Ground.phase }, { on := 3, ground := Go.Ground.phase }, { on := 4, ground := Go.Ground.phase }, { on := 5, ground := Go.Ground.phase }, { on := 6, ground := Go.Ground.phase }, { on := 7, ground := Go.Ground.phase }, { on := 8, ground := Go.Ground.phase }, { on := 9, ground := Go.Ground.phase }], guard := none }) rfl (by kernel_rfl) (fun KK hKK => ?_)
    go_simp
    refine hKK.out _ _ ?_
    clear hKK KK
    try simp only [Act.put, List.setIfInBounds_toArray, List.set_cons_zero, List.set_cons_succ]
    go_wp2
    go_ret
    exact ⟨rfl, HBW.out.trans (HB6.out.mono HBW.out.size)⟩
  by_cases h30 : c = 30
  · subst h30
    rw [show nmB P m 30 a b = (isIn a P.nc && isIn b (P.nf a.toNat)) from HR.out]
    by_cases hi : isIn a P.nc = true
    · obtain ⟨k, rfl, hk⟩ := isIn_y hi
      rw [hi]
      rcases HP.out.k with h0 | ⟨bk, ok, hka, hbk, hck⟩
      · omega
      have x0 : w.cell? ⟨bk, ok + k, none⟩ = some (.slice (A.fa k) (P.nf k) (A.fc k)) := hck k hk
      rw [show ((k : Int).toNat) = k from Int.toNat_natCast k]
      have l0 := HF.out.nf k hk
      unfold Big at l0
      rw [hka] at HE ⊢
      clear hck
      have hi2 : (k : Int) < P.nc := by omega
      have hne : bk ≠ w.heap.size := by omega
      have hne2 : bk ≠ w.heap.size + 1 := by omega
      generalize P.nf k = nf at x0 l0 ⊢
      go_enter Try.func90, Try.ntmps90
      go_wp2_with fail
      go_quiet ((go_at_call 87; exact quiet_same (in_c _ _ _)))
      go_wp2
      go_ret
      exact ⟨rfl, below_drewN HE.out _⟩
    · have hi' : isIn a P.nc = false := by simpa using hi
      rw [hi']
      have HI1 : Hid (∀ V, Calls Try.prog 87 #[.int .i64 a, .int .i64 (P.nc : Nat)] V fun e w' => e = .returned (.bool false) ∧ w' = V) := Lib.hid fun V => hi' ▸ in_c a P.nc V
      clear hi hi'
      go_enter Try.func90, Try.ntmps90
      go_wp2_with fail
      go_quiet ((go_at_call 87; exact quiet_same (HI1.out _)))
      go_wp2
      go_ret
      exact ⟨rfl, below_drewN HE.out _⟩
  by_cases h31 : c = 31
  · subst h31
    rw [show nmB P m 31 a b = (isIn a P.nc && isIn b (P.nf a.toNat)) from HR.out]
    by_cases hi : isIn a P.nc = true
    · obtain ⟨k, rfl, hk⟩ := isIn_y hi
      rw [hi]
      rcases HP.out.k with h0 | ⟨bk, ok, hka, hbk, hck⟩
      · omega
      have x0 : w.cell? ⟨bk, ok + k, none⟩ = some (.slice (A.fa k) (P.nf k) (A.fc k)) := hck k hk
      rw [show ((k : Int).toNat) = k from Int.toNat_natCast k]
      have l0 := HF.out.nf k hk
      unfold Big at l0
      rw [hka] at HE ⊢
      clear hck
      have hi2 : (k : Int) < P.nc := by omega
      have hne : bk ≠ w.heap.size := by omega
      have hne2 : bk ≠ w.heap.size + 1 := by omega
      generalize P.nf k = nf at x0 l0 ⊢
      go_enter Try.func90, Try.ntmps90
      go_wp2_with fail
      go_quiet ((go_at_call 87; exact quiet_same (in_c _ _ _)))
      go_wp2
      go_ret
      exact ⟨rfl, below_drewN HE.out _⟩
    · have hi' : isIn a P.nc = false := by simpa using hi
      rw [hi']
      have HI1 : Hid (∀ V, Calls Try.prog 87 #[.int .i64 a, .int .i64 (P.nc : Nat)] V fun e w' => e = .returned (.bool false) ∧ w' = V) := Lib.hid fun V => hi' ▸ in_c a P.nc V
      clear hi hi'
      go_enter Try.func90, Try.ntmps90
      go_wp2_with fail
      go_quiet ((go_at_call 87; exact quiet_same (HI1.out _)))
      go_wp2
      go_ret
      exact ⟨rfl, below_drewN HE.out _⟩
  by_cases h32 : c = 32
  · subst h32
    rw [show nmB P m 32 a b = decide (a = 1 ∨ a = 2) from HR.out]
    by_cases h1 : a = 1
    · subst h1
      go_enter Try.func90, Try.ntmps90
      go_wp2
      go_ret
      exact ⟨rfl, HE.out⟩
    by_cases h2 : a = 2
    · subst h2
      go_enter Try.func90, Try.ntmps90
      go_wp2
      go_ret
      exact ⟨rfl, HE.out⟩
    rw [decide_eq_false (by omega)]
    have d1 : (a == 1) = false := by simpa using h1
    have d2 : (a == 2) = false := by simpa using h2
    go_enter Try.func90, Try.ntmps90
    go_wp2
    go_ret
    exact ⟨rfl, HE.out⟩
  by_cases h33 : c = 33
  · subst h33
    rw [show nmB P m 33 a b = decide (a = 1 ∨ a = 2) from HR.out]
    by_cases h1 : a = 1
    · subst h1
      go_enter Try.func90, Try.ntmps90
      go_wp2
      go_ret
      exact ⟨rfl, HE.out⟩
    by_cases h2 : a = 2
    · subst h2
      go_enter Try.func90, Try.ntmps90
      go_wp2
      go_ret
      exact ⟨rfl, HE.out⟩
    rw [decide_eq_false (by omega)]
    have d1 : (a == 1) = false := by simpa using h1
    have d2 : (a == 2) = false := by simpa using h2
    go_enter Try.func90, Try.ntmps90
    go_wp2
    go_ret
    exact ⟨rfl, HE.out⟩
  by_cases h34 : c = 34
  · subst h34
    rw [show nmB P m 34 a b = decide (a = 1 ∨ a = 2) from HR.out]
    by_cases h1 : a = 1
    · subst h1
      go_enter Try.func90, Try.ntmps90
      go_wp2
      go_ret
      exact ⟨rfl, HE.out⟩
    by_cases h2 : a = 2
    · subst h2
      go_enter Try.func90, Try.ntmps90
      go_wp2
      go_ret
      exact ⟨rfl, HE.out⟩
    rw [decide_eq_false (by omega)]
    have d1 : (a == 1) = false := by simpa using h1
    have d2 : (a == 2) = false := by simpa using h2
    go_enter Try.func90, Try.ntmps90
    go_wp2
    go_ret
    exact ⟨rfl, HE.out⟩
  by_cases h38 : c = 38
  · subst h38
    rw [show nmB P m 38 a b = (isIn a P.nm && thr P a.toNat) from HR.out]
    by_cases hi : isIn a P.nm = true
    · obtain ⟨k, rfl, hk⟩ := isIn_y hi
      rw [hi]
      have x0 : w.cell? ⟨bm, om + k * 5, none⟩ = some (.slice (A.ppa k) (P.pn k) (A.ppc k)) := (HM.out k hk).1
      have x1 : w.cell? ⟨bm, om + k * 5 + 1, none⟩ = some (.int .i64 (P.rt k)) := (HM.out k hk).2.1
      have x2 : w.cell? ⟨bm, om + k * 5 + 2, none⟩ = some (.slice (A.lla k) (P.ln k) (A.llc k)) := (HM.out k hk).2.2.1
      have x3 : w.cell? ⟨bm, om + k * 5 + 3, none⟩ = some (.int .i64 (P.sk k)) := (HM.out k hk).2.2.2.1
      have x4 : w.cell? ⟨bm, om + k * 5 + 4, none⟩ = some (.slice (A.cda k) (P.cn k) (A.cdc k)) := (HM.out k hk).2.2.2.2
      rw [show ((k : Int).toNat) = k from Int.toNat_natCast k]
      have HA : Hid (Row1 w (A.ppa k) (P.pn k) fun j => .int .i64 (P.pt k j)) := Lib.hid (HP.out.a k hk)
      rw [HMa.out] at HE ⊢
      have HI1 : Hid (∀ V, Calls Try.prog 87 #[.int .i64 (k : Int), .int .i64 (P.nm : Nat)] V fun e w' => e = .returned (.bool true) ∧ w' = V) := Lib.hid fun V => hi ▸ in_c k P.nm V
      clear hi
      have hi2 : (k : Int) < P.nm := by omega
      have hne : bm ≠ w.heap.size := by omega
      have hne2 : bm ≠ w.heap.size + 1 := by omega
      rw [show thr P k = decide (P.pn k = 1 ∧ P.pt k 0 = 2 ∧ P.rt k = 0) from rfl]
      have hpk := HF.out.pn k hk
      unfold Big at hpk
      by_cases p1 : P.pn k = 1
      · obtain ⟨b3, o3, ha3, hb3, hc3⟩ := HA.out.resolve_left (by omega)
        have y : w.cell? ⟨b3, o3, none⟩ = some (.int .i64 (P.pt k 0)) := hc3 0 (by omega)
        rw [p1, ha3] at x0
        have hne3 : b3 ≠ w.heap.size := by omega
        have hne4 : b3 ≠ w.heap.size + 1 := by omega
        have hne5 : b3 ≠ w.heap.size + 1 + 1 := by omega
        clear hc3
        by_cases p2 : P.pt k 0 = 2
        · by_cases p3 : P.rt k = 0
          · rw [show decide (P.pn k = 1 ∧ P.pt k 0 = 2 ∧ P.rt k = 0) = true from decide_eq_true ⟨p1, p2, p3⟩]
            rw [p2] at y
            rw [p3] at x1
            have y3 : (((w.alloc (.cells #[.slice A.pa P.np A.pc, .slice A.ca P.nc A.cc, .slice (some ⟨bm, om, none⟩) P.nm A.mc] 26)).alloc (.cells #[.int .i64 38, .int .i64 (k : Nat), .int .i64 b, .int .i64 sz] 141)).alloc (.cells #[.slice (some ⟨b3, o3, none⟩) 1 (A.ppc k), .int .i64 0, .slice (A.lla k) (P.ln k) (A.llc k), .int .i64 (P.sk k), .slice (A.cda k) (P.cn k) (A.cdc k)] 50)).cell? ⟨b3, o3, none⟩ = some (.int .i64 2) := ((HE.out.alloc HE.out.size _).cell (p := ⟨b3, o3, none⟩) hb3).trans y
            go_enter Try.func90, Try.ntmps90
            go_wp2_with (go_at_call 87; refine (HI1.out _).mono ?_; rintro e w1 ⟨rfl, rfl⟩)
            go_ret
            exact ⟨rfl, HE.out.alloc HE.out.size _⟩
          · rw [show decide (P.pn k = 1 ∧ P.pt k 0 = 2 ∧ P.rt k = 0) = false from decide_eq_false (fun q => p3 q.2.2)]
            rw [p2] at y
            have d3 : (P.rt k == 0) = false := by simpa using p3
            have y3 : (((w.alloc (.cells #[.slice A.pa P.np A.pc, .slice A.ca P.nc A.cc, .slice (some ⟨bm, om, none⟩) P.nm A.mc] 26)).alloc (.cells #[.int .i64 38, .int .i64 (k : Nat), .int .i64 b, .int .i64 sz] 141)).alloc (.cells #[.slice (some ⟨b3, o3, none⟩) 1 (A.ppc k), .int .i64 (P.rt k), .slice (A.lla k) (P.ln k) (A.llc k), .int .i64 (P.sk k), .slice (A.cda k) (P.cn k) (A.cdc k)] 50)).cell? ⟨b3, o3, none⟩ = some (.int .i64 2) := ((HE.out.alloc HE.out.size _).cell (p := ⟨b3, o3, none⟩) hb3).trans y
            go_enter Try.func90, Try.ntmps90
            go_wp2_with (go_at_call 87; refine (HI1.out _).mono ?_; rintro e w1 ⟨rfl, rfl⟩)
            go_ret
            exact ⟨rfl, HE.out.alloc HE.out.size _⟩
        · rw [show decide (P.pn k = 1 ∧ P.pt k 0 = 2 ∧ P.rt k = 0) = false from decide_eq_false (fun q => p2 q.2.1)]
          have d2 : (P.pt k 0 == 2) = false := by simpa using p2
          have y3 : (((w.alloc (.cells #[.slice A.pa P.np A.pc, .slice A.ca P.nc A.cc, .slice (some ⟨bm, om, none⟩) P.nm A.mc] 26)).alloc (.cells #[.int .i64 38, .int .i64 (k : Nat), .int .i64 b, .int .i64 sz] 141)).alloc (.cells #[.slice (some ⟨b3, o3, none⟩) 1 (A.ppc k), .int .i64 (P.rt k), .slice (A.lla k) (P.ln k) (A.llc k), .int .i64 (P.sk k), .slice (A.cda k) (P.cn k) (A.cdc k)] 50)).cell? ⟨b3, o3, none⟩ = some (.int .i64 (P.pt k 0)) := ((HE.out.alloc HE.out.size _).cell (p := ⟨b3, o3, none⟩) hb3).trans y
          go_enter Try.func90, Try.ntmps90
          go_wp2_with (go_at_call 87; refine (HI1.out _).mono ?_; rintro e w1 ⟨rfl, rfl⟩)
          go_ret
          exact ⟨rfl, HE.out.alloc HE.out.size _⟩
      · rw [show decide (P.pn k = 1 ∧ P.pt k 0 = 2 ∧ P.rt k = 0) = false from decide_eq_false (fun q => p1 q.1)]
        have d1 : ((P.pn k : Int) == 1) = false := by simpa using (show ¬ (P.pn k : Int) = 1 by omega)
        have d1' : (P.pn k == 1) = false := by simpa using p1
        go_enter Try.func90, Try.ntmps90
        go_wp2_with (go_at_call 87; refine (HI1.out _).mono ?_; rintro e w1 ⟨rfl, rfl⟩)
        go_ret
        exact ⟨rfl, HE.out.alloc HE.out.size _⟩
    · have hi' : isIn a P.nm = false := by simpa using hi
      rw [hi']
      have HI1 : Hid (∀ V, Calls Try.prog 87 #[.int .i64 a, .int .i64 (P.nm : Nat)] V fun e w' => e = .returned (.bool false) ∧ w' = V) := Lib.hid fun V => hi' ▸ in_c a P.nm V
      clear hi hi'
      go_enter Try.func90, Try.ntmps90
      go_wp2_with fail
      refine (HI1.out _).mono ?_
      rintro e w' ⟨rfl, rfl⟩
      go_wp2
      go_ret
      exact ⟨rfl, HE.out⟩
  rw [show nmB P m c a b = true from HR.out.trans (by rw [if_neg h1, if_neg (by omega), if_neg h27, if_neg h29, if_neg (by omega), if_neg (by omega), if_neg h38])]
  have d1 : ((c : Int) == 1) = false := eqB_n h1
  have d4 : ((c : Int) == 4) = false := eqB_n h4
  have d5 : ((c : Int) == 5) = false := eqB_n h5
  have d27 : ((c : Int) == 27) = false := eqB_n h27
  have d29 : ((c : Int) == 29) = false := eqB_n h29
  have d30 : ((c : Int) == 30) = false := eqB_n h30
  have d31 : ((c : Int) == 31) = false := eqB_n h31
  have d32 : ((c : Int) == 32) = false := eqB_n h32
  have d33 : ((c : Int) == 33) = false := eqB_n h33
  have d34 : ((c : Int) == 34) = false := eqB_n h34
  have d38 : ((c : Int) == 38) = false := eqB_n h38
  clear h1 h4 h5 h27 h29 h30 h31 h32 h33 h34 h38
  go_enter Try.func90, Try.ntmps90
  go_wp2
  go_ret
  exact ⟨rfl, HE.out⟩
end
end Go.Proofs.Ytpiafgmncfibmaa.Vf
