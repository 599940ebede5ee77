import Derived.Test.YtnbpgoacooddjaaNe
import Derived.Deep.CutBlock
import Derived.Deep.DeepCutAuto
import Derived.Deep.CutRange
namespace Go.Proofs.Ytnbpgoacooddjaa.Mm
open Go.ChangeShapes Go.WideShapes Go.ChangeAt Go.RowKit Go.Deep
set_option linter.unusedVariables false
set_option maxRecDepth 100000 in
set_option maxHeartbeats 40000000 in
theorem plays_walk (w : World) (sp : Option Addr) (n cp : Nat) (A0 S0 : Nat → Nat) (W0 X0 : Nat → Bool) (hb : RgSrc w (.slice sp n cp) n A0 S0 W0 X0) (hn : n ≤ 9223372036854775807) (hA : ∀ i, A0 i < 18446744073709551616) (hS : ∀ i, S0 i < 18446744073709551616)
    (a : Option Addr) (m cap : Nat) (Y : Nat → Am) (hY : AmS w a m Y) (hm : m ≤ 9223372036854775807) (oth : Nat) (ho : oth < 18446744073709551616) :
    Calls Try.prog 12 #[.slice sp n cp, .slice a m cap, .int .u64 oth] w fun e w' => e = .returned (.bool true) ∧ Below w.heap.size w w' := by
  have HKN := Lib.hid (known58_c w)
  have HRG := Lib.hid hb
  have HY := Lib.hid hY
  have HA := Lib.hid hA
  have HS := Lib.hid hS
  clear hb hY hA hS
  go_enter Try.func12, Try.ntmps12
  go_upto_region 3 with (go_at_call 58; refine HKN.out.mono ?_; rintro e w1 ⟨rfl, hb1⟩; have HB1 := Lib.hid hb1; clear hb1)
  have HFW := Lib.hid (few_c w1 _ n A0 S0 W0 X0 (HRG.out.past HB1.out) hn HS.out a m cap Y (HY.out.past HB1.out) hm)
  go_upto_region 4 with (go_at_call 59; refine HFW.out.mono ?_; rintro e w2 ⟨⟨fb, rfl⟩, hb2⟩; have HB2 := Lib.hid (HB1.out.trans (hb2.mono HB1.out.size)); clear hb2; cases fb)
  · go_wp2
    go_ret
    exact ⟨rfl, HB2.out⟩
  · have HNW := Lib.hid (bo_new w2 _ n A0 S0 W0 X0 (HRG.out.past HB2.out) hn HA.out HS.out)
    clear HFW HKN HB1 HA HS
    go_upto_region 6 with (go_at_call 43; refine HNW.out.mono ?_; rintro e w3 ⟨hb3, h3⟩; have HB3 := Lib.hid (HB2.out.trans (hb3.mono HB2.out.size)); rcases h3 with ⟨p1, rfl, h3⟩ | ⟨rfl, h3⟩ <;> have H3 := Lib.hid h3 <;> clear hb3 h3)
    · go_upto_region 11 with (go_at_call 60; refine H3.out.mono ?_; rintro e w4 ⟨hb4, p2, M, rfl, hbo⟩; have HB4 := Lib.hid (HB3.out.trans (hb4.mono HB3.out.size)); have HBO := Lib.hid hbo; clear hb4 hbo)
      have HF1 : Hid (∀ k, (fun k => w2.heap.size ≤ k ∧ k < w3.heap.size) k → w.heap.size ≤ k) := Lib.hid (fun k hk => Nat.le_trans HB2.out.size hk.1)
      have HF2 : Hid (∀ k, (fun k => w3.heap.size ≤ k ∧ k < w4.heap.size) k → w.heap.size ≤ k) := Lib.hid (fun k hk => Nat.le_trans HB3.out.size hk.1)
      generalize (fun k => w2.heap.size ≤ k ∧ k < w3.heap.size) = F1 at HBO HF1
      generalize (fun k => w3.heap.size ≤ k ∧ k < w4.heap.size) = F2 at HBO HF2
      clear H3 HNW HB3 HB2
      go_upto_region 13 with (first
        | (go_at_call 61; refine (bo_regions HBO.out).mono ?_; rintro e w5 ⟨⟨vx, rfl, hox⟩, hb5⟩; have HOX := Lib.hid hox; have HB5' := Lib.hid hb5; have HB5 := Lib.hid (HB4.out.trans (hb5.mono HB4.out.size)); have HBO5 := Lib.hid (HBO.out.past hb5); clear hox hb5)
        | (go_at_call 62; refine (bo_rregions HBO5.out).mono ?_; rintro e w6 ⟨⟨vy, rfl, hoy⟩, hb6⟩; have HOY := Lib.hid hoy; have HOX6 := Lib.hid (own_past HOX.out hb6); have HB6 := Lib.hid (HB5.out.trans (hb6.mono HB5.out.size)); have HBO6 := Lib.hid (HBO5.out.past hb6); clear hoy hb6))
      obtain ⟨ax, cx, rfl, hax⟩ := own_form HOX6.out
      obtain ⟨ay, cy, rfl, hay⟩ := own_form HOY.out
      have hM16 := HBO6.out.ok.n16
      clear HOX HB5 HB5' HBO5 HB4 HBO
      go_wp2
      go_loopw [6, 13] (fun _ s13 wr => ∃ i : Nat, i ≤ M.n ∧ s13 = .int .i64 i ∧ Hid (Below w6.heap.size w6 wr)) (fun _ s13 _ => M.n + 1 - (intOf s13).toNat)
      case atStart => exact ⟨0, by omega, rfl, Lib.hid (Below.refl _ _)⟩
      case round =>
        obtain ⟨i, hi, rfl, HBi⟩ := hrel
        by_cases hlt : i < M.n
        · obtain ⟨gx, rfl⟩ : ∃ g, ax = some ⟨g, 0, none⟩ := by
            rcases hax with h | h
            · omega
            · exact h
          obtain ⟨gy, rfl⟩ : ∃ g, ay = some ⟨g, 0, none⟩ := by
            rcases hay with h | h
            · omega
            · exact h
          have gi : (i : Int) < M.n := by omega
          have hx := own_past HOX6.out HBi.out
          have hy := own_past HOY.out HBi.out
          have x0 : wr.cell? ⟨gx, i * 4, none⟩ = some (.int .u64 (M.A i : Nat)) := (own_cells hx).1 _ _ (rgL_get M i 0 (by decide) _ hlt)
          have x1 : wr.cell? ⟨gx, i * 4 + 1, none⟩ = some (.int .u64 (M.S i : Nat)) := (own_cells hx).1 _ _ (rgL_get M i 1 (by decide) _ hlt)
          have x2 : wr.cell? ⟨gx, i * 4 + 2, none⟩ = some (.bool (M.W i)) := (own_cells hx).1 _ _ (rgL_get M i 2 (by decide) _ hlt)
          have x3 : wr.cell? ⟨gx, i * 4 + 3, none⟩ = some (.bool (M.X i)) := (own_cells hx).1 _ _ (rgL_get M i 3 (by decide) _ hlt)
          have y0 : wr.cell? ⟨gy, i * 4, none⟩ = some (.int .u64 (M.A i : Nat)) := (own_cells hy).1 _ _ (rgL_get M i 0 (by decide) _ hlt)
          have y1 : wr.cell? ⟨gy, i * 4 + 1, none⟩ = some (.int .u64 (M.S i : Nat)) := (own_cells hy).1 _ _ (rgL_get M i 1 (by decide) _ hlt)
          have y2 : wr.cell? ⟨gy, i * 4 + 2, none⟩ = some (.bool (M.W i)) := (own_cells hy).1 _ _ (rgL_get M i 2 (by decide) _ hlt)
          have y3 : wr.cell? ⟨gy, i * 4 + 3, none⟩ = some (.bool (M.X i)) := (own_cells hy).1 _ _ (rgL_get M i 3 (by decide) _ hlt)
          clear hx hy
          go_upto_region 18 with (fail)
          go_quiet (fail)
          go_wp2
          exact ⟨⟨i + 1, by omega, by go_num, Lib.hid (below_drewN HBi.out _)⟩, by simp [intOf]; omega⟩
        · have hin : i = M.n := by omega
          rw [hin]
          clear hlt hi hin i
          have HBn := Lib.hid (HB6.out.trans (HBi.out.mono HB6.out.size))
          have HBOn := Lib.hid (HBO6.out.past HBi.out)
          clear HBi HBO6 HB6 HOX6 HOY hax hay hM16
          go_wp2
          go_loopw [6, 7, 14, 15] (fun _ s7 s14 _ wr => ∃ (i p1 : Nat) (M : Me) (F1 : Nat → Prop), i ≤ m ∧ s14 = .int .i64 i ∧ s7 = .pointer (some ⟨p1, 0, none⟩) ∧ Hid (Bo wr F1 F2 p1 p2 M) ∧ Hid (∀ k, F1 k → w.heap.size ≤ k) ∧ Hid (Below w.heap.size w wr)) (fun _ _ s14 _ _ => m + 1 - (intOf s14).toNat)
          case atStart => exact ⟨0, p1, M, F1, by omega, rfl, rfl, HBOn, HF1, HBn⟩
          case round =>
            clear HBn HBOn HF1
            obtain ⟨i, p1, M, F1, hi, rfl, rfl, HBO, HF1, HB⟩ := hrel
            by_cases hlt : i < m
            · obtain ⟨ab, ao, rfl, hab, hac⟩ : ∃ b o, a = some ⟨b, o, none⟩ ∧ b < w.heap.size ∧ ∀ i, i < m → AmOk w b (o + i * 5) (Y i) := by
                rcases HY.out with h | h
                · omega
                · exact h
              have HAC := Lib.hid (hac i hlt)
              have HAB := Lib.hid hab
              have c0 := (HB.out.cell (p := ⟨ab, ao + i * 5, none⟩) hab).trans (hac i hlt).c0
              have gi : (i : Int) < m := by omega
              clear hac
              generalize Y i = x at HAC c0
              have HCX : Hid (∀ w', Below w.heap.size w w' → w'.cell? ⟨ab, ao + i * 5 + 1, none⟩ = some (.int .u64 (x.ad : Nat)) ∧ w'.cell? ⟨ab, ao + i * 5 + 2, none⟩ = some (.int .u64 (x.v : Nat)) ∧ w'.cell? ⟨ab, ao + i * 5 + 3, none⟩ = some (.slice x.sp x.m x.cs) ∧ w'.cell? ⟨ab, ao + i * 5 + 4, none⟩ = some (.int .i64 x.N)) := Lib.hid (fun w' hb =>
                ⟨(hb.cell (p := ⟨ab, ao + i * 5 + 1, none⟩) HAB.out).trans HAC.out.c1, (hb.cell (p := ⟨ab, ao + i * 5 + 2, none⟩) HAB.out).trans HAC.out.c2, (hb.cell (p := ⟨ab, ao + i * 5 + 3, none⟩) HAB.out).trans HAC.out.c3, (hb.cell (p := ⟨ab, ao + i * 5 + 4, none⟩) HAB.out).trans HAC.out.c4⟩)
              go_upto_block 4 with (fail)
              go_cut [6, 7, 15] from 79 to 152 (fun _ s7 _ wx => ∃ (p1' : Nat) (M' : Me) (F1' : Nat → Prop), s7 = .pointer (some ⟨p1', 0, none⟩) ∧ Hid (Bo wx F1' F2 p1' p2 M') ∧ Hid (∀ k, F1' k → w.heap.size ≤ k) ∧ Hid (Below w.heap.size w wx))
              case first =>
                have hbd : Below wr.heap.size wr wr.drew := below_drewN (Below.refl _ _) 1
                have HBd := Lib.hid (HB.out.trans (hbd.mono HB.out.size))
                have HBOd := Lib.hid (HBO.out.past hbd)
                clear hbd
                by_cases h1 : x.op = 1
                · have q1 : (x.op == 1) = true := by simpa using h1
                  clear h1
                  go_upto_region 25 with (fail)
                  refine wp_region_held_drew (S := fun w' => (w'.cell? ⟨ab, ao + i * 5 + 1, none⟩ = some (.int .u64 (x.ad : Nat)) ∧ w'.cell? ⟨ab, ao + i * 5 + 2, none⟩ = some (.int .u64 (x.v : Nat)))) (by kernel_rfl) ⟨(HCX.out _ HBd.out).1, (HCX.out _ HBd.out).2.1⟩ (fun hHeld => ?_)
                  generalize wr.drew = V at HBd HBOd hHeld ⊢
                  refine wpAnyH_take (i := 0) (oi := { dst := some 81, op := Go.Op.move (Go.Operand.tmp 7), type := 83, pos := "law.go:110", after := #[], guard := none }) (v := ?_) rfl (by kernel_rfl) (by kernel_rfl) (by kernel_rfl) (fun _ _ _ h => h) (Or.inl ⟨by rfl, ?_⟩) (by assumption) ?_
                  rotate_left
                  · (intro w0 hSw; (try dsimp only at hSw); go_split_ands; go_simp; with_reducible rfl)
                  try simp only [Act.put, List.setIfInBounds_toArray, List.set_cons_zero, List.set_cons_succ]
                  refine wpAnyH_take (i := 1) (oi := { dst := some 82, op := Go.Op.move (Go.Operand.tmp 1), type := 107, pos := "law.go:110", after := #[], guard := none }) (v := ?_) rfl (by kernel_rfl) (by kernel_rfl) (by kernel_rfl) (fun _ _ _ h => h) (Or.inl ⟨by rfl, ?_⟩) (by assumption) ?_
                  rotate_left
                  · (intro w0 hSw; (try dsimp only at hSw); go_split_ands; go_simp; with_reducible rfl)
                  try simp only [Act.put, List.setIfInBounds_toArray, List.set_cons_zero, List.set_cons_succ]
                  refine wpAnyH_take (i := 2) (oi := { dst := some 83, op := Go.Op.move (Go.Operand.tmp 14), type := 3, pos := "law.go:110", after := #[], guard := none }) (v := ?_) rfl (by kernel_rfl) (by kernel_rfl) (by kernel_rfl) (fun _ _ _ h => h) (Or.inl ⟨by rfl, ?_⟩) (by assumption) ?_
                  rotate_left
                  · (intro w0 hSw; (try dsimp only at hSw); go_split_ands; go_simp; with_reducible rfl)
                  try simp only [Act.put, List.setIfInBounds_toArray, List.set_cons_zero, List.set_cons_succ]
                  refine wpAnyH_take (i := 3) (oi := { dst := some 84, op := Go.Op.indexAddr 107 (Go.Operand.tmp 82) (Go.Operand.tmp 83), type := 0, pos := "law.go:110", after := #[{ on := 1, ground := Go.Ground.data }, { on := 2, ground := Go.Ground.data }], guard := none }) (v := ?_) rfl (by kernel_rfl) (by kernel_rfl) (by kernel_rfl) (fun _ _ _ h => h) (Or.inl ⟨by rfl, ?_⟩) (by assumption) ?_
                  rotate_left
                  · (intro w0 hSw; (try dsimp only at hSw); go_split_ands; go_simp; with_reducible rfl)
                  try simp only [Act.put, List.setIfInBounds_toArray, List.set_cons_zero, List.set_cons_succ]
                  refine wpAnyH_take (i := 4) (oi := { dst := some 85, op := Go.Op.fieldAddr 116 (Go.Operand.tmp 84) 1, type := 0, pos := "law.go:110", after := #[{ on := 3, ground := Go.Ground.data }], guard := none }) (v := ?_) rfl (by kernel_rfl) (by kernel_rfl) (by kernel_rfl) (fun _ _ _ h => h) (Or.inl ⟨by rfl, ?_⟩) (by assumption) ?_
                  rotate_left
                  · (intro w0 hSw; (try dsimp only at hSw); go_split_ands; go_simp; with_reducible rfl)
                  try simp only [Act.put, List.setIfInBounds_toArray, List.set_cons_zero, List.set_cons_succ]
                  refine wpAnyH_take (i := 5) (oi := { dst := some 86, op := Go.Op.load 23 (Go.Operand.tmp 85), type := 23, pos := "law.go:110", after := #[{ on := 4, ground := Go.Ground.data }], guard := none }) (v := ?_) rfl (by kernel_rfl) (by kernel_rfl) (by kernel_rfl) (fun _ _ _ h => h) (Or.inl ⟨by rfl, ?_⟩) (by assumption) ?_
                  rotate_left
                  · (intro w0 hSw; (try dsimp only at hSw); go_split_ands; go_simp; with_reducible rfl)
                  try simp only [Act.put, List.setIfInBounds_toArray, List.set_cons_zero, List.set_cons_succ]
                  refine wpAnyH_take (i := 6) (oi := { dst := some 87, op := Go.Op.move (Go.Operand.tmp 1), type := 107, pos := "law.go:110", after := #[], guard := none }) (v := ?_) rfl (by kernel_rfl) (by kernel_rfl) (by kernel_rfl) (fun _ _ _ h => h) (Or.inl ⟨by rfl, ?_⟩) (by assumption) ?_
                  rotate_left
                  · (intro w0 hSw; (try dsimp only at hSw); go_split_ands; go_simp; with_reducible rfl)
                  try simp only [Act.put, List.setIfInBounds_toArray, List.set_cons_zero, List.set_cons_succ]
                  refine wpAnyH_take (i := 7) (oi := { dst := some 88, op := Go.Op.move (Go.Operand.tmp 14), type := 3, pos := "law.go:110", after := #[], guard := none }) (v := ?_) rfl (by kernel_rfl) (by kernel_rfl) (by kernel_rfl) (fun _ _ _ h => h) (Or.inl ⟨by rfl, ?_⟩) (by assumption) ?_
                  rotate_left
                  · (intro w0 hSw; (try dsimp only at hSw); go_split_ands; go_simp; with_reducible rfl)
                  try simp only [Act.put, List.setIfInBounds_toArray, List.set_cons_zero, List.set_cons_succ]
                  refine wpAnyH_take (i := 8) (oi := { dst := some 89, op := Go.Op.indexAddr 107 (Go.Operand.tmp 87) (Go.Operand.tmp 88), type := 0, pos := "law.go:110", after := #[{ on := 6, ground := Go.Ground.data }, { on := 7, ground := Go.Ground.data }], guard := none }) (v := ?_) rfl (by kernel_rfl) (by kernel_rfl) (by kernel_rfl) (fun _ _ _ h => h) (Or.inl ⟨by rfl, ?_⟩) (by assumption) ?_
                  rotate_left
                  · (intro w0 hSw; (try dsimp only at hSw); go_split_ands; go_simp; with_reducible rfl)
                  try simp only [Act.put, List.setIfInBounds_toArray, List.set_cons_zero, List.set_cons_succ]
                  refine wpAnyH_take (i := 9) (oi := { dst := some 90, op := Go.Op.fieldAddr 116 (Go.Operand.tmp 89) 2, type := 0, pos := "law.go:110", after := #[{ on := 8, ground := Go.Ground.data }], guard := none }) (v := ?_) rfl (by kernel_rfl) (by kernel_rfl) (by kernel_rfl) (fun _ _ _ h => h) (Or.inl ⟨by rfl, ?_⟩) (by assumption) ?_
                  rotate_left
                  · (intro w0 hSw; (try dsimp only at hSw); go_split_ands; go_simp; with_reducible rfl)
                  try simp only [Act.put, List.setIfInBounds_toArray, List.set_cons_zero, List.set_cons_succ]
                  refine wpAnyH_take (i := 10) (oi := { dst := some 91, op := Go.Op.load 23 (Go.Operand.tmp 90), type := 23, pos := "law.go:110", after := #[{ on := 9, ground := Go.Ground.data }], guard := none }) (v := ?_) rfl (by kernel_rfl) (by kernel_rfl) (by kernel_rfl) (fun _ _ _ h => h) (Or.inl ⟨by rfl, ?_⟩) (by assumption) ?_
                  rotate_left
                  · (intro w0 hSw; (try dsimp only at hSw); go_split_ands; go_simp; with_reducible rfl)
                  try simp only [Act.put, List.setIfInBounds_toArray, List.set_cons_zero, List.set_cons_succ]
                  refine wpAnyH_take (i := 12) (oi := { dst := some 93, op := Go.Op.move (Go.Operand.tmp 9), type := 109, pos := "law.go:110", after := #[], guard := none }) (v := ?_) rfl (by kernel_rfl) (by kernel_rfl) (by kernel_rfl) (fun _ _ _ h => h) (Or.inl ⟨by rfl, ?_⟩) (by assumption) ?_
                  rotate_left
                  · (intro w0 hSw; (try dsimp only at hSw); go_split_ands; go_simp; with_reducible rfl)
                  try simp only [Act.put, List.setIfInBounds_toArray, List.set_cons_zero, List.set_cons_succ]
                  refine wpAnyH_take (i := 13) (oi := { dst := some 94, op := Go.Op.move (Go.Operand.tmp 1), type := 107, pos := "law.go:110", after := #[], guard := none }) (v := ?_) rfl (by kernel_rfl) (by kernel_rfl) (by kernel_rfl) (fun _ _ _ h => h) (Or.inl ⟨by rfl, ?_⟩) (by assumption) ?_
                  rotate_left
                  · (intro w0 hSw; (try dsimp only at hSw); go_split_ands; go_simp; with_reducible rfl)
                  try simp only [Act.put, List.setIfInBounds_toArray, List.set_cons_zero, List.set_cons_succ]
                  refine wpAnyH_take (i := 14) (oi := { dst := some 95, op := Go.Op.move (Go.Operand.tmp 14), type := 3, pos := "law.go:110", after := #[], guard := none }) (v := ?_) rfl (by kernel_rfl) (by kernel_rfl) (by kernel_rfl) (fun _ _ _ h => h) (Or.inl ⟨by rfl, ?_⟩) (by assumption) ?_
                  rotate_left
                  · (intro w0 hSw; (try dsimp only at hSw); go_split_ands; go_simp; with_reducible rfl)
                  try simp only [Act.put, List.setIfInBounds_toArray, List.set_cons_zero, List.set_cons_succ]
                  refine wpAnyH_take (i := 15) (oi := { dst := some 96, op := Go.Op.indexAddr 107 (Go.Operand.tmp 94) (Go.Operand.tmp 95), type := 0, pos := "law.go:110", after := #[{ on := 13, ground := Go.Ground.data }, { on := 14, ground := Go.Ground.data }], guard := none }) (v := ?_) rfl (by kernel_rfl) (by kernel_rfl) (by kernel_rfl) (fun _ _ _ h => h) (Or.inl ⟨by rfl, ?_⟩) (by assumption) ?_
                  rotate_left
                  · (intro w0 hSw; (try dsimp only at hSw); go_split_ands; go_simp; with_reducible rfl)
                  try simp only [Act.put, List.setIfInBounds_toArray, List.set_cons_zero, List.set_cons_succ]
                  refine wpAnyH_take (i := 16) (oi := { dst := some 97, op := Go.Op.fieldAddr 116 (Go.Operand.tmp 96) 1, type := 0, pos := "law.go:110", after := #[{ on := 15, ground := Go.Ground.data }], guard := none }) (v := ?_) rfl (by kernel_rfl) (by kernel_rfl) (by kernel_rfl) (fun _ _ _ h => h) (Or.inl ⟨by rfl, ?_⟩) (by assumption) ?_
                  rotate_left
                  · (intro w0 hSw; (try dsimp only at hSw); go_split_ands; go_simp; with_reducible rfl)
                  try simp only [Act.put, List.setIfInBounds_toArray, List.set_cons_zero, List.set_cons_succ]
                  refine wpAnyH_take (i := 17) (oi := { dst := some 98, op := Go.Op.load 23 (Go.Operand.tmp 97), type := 23, pos := "law.go:110", after := #[{ on := 16, ground := Go.Ground.data }], guard := none }) (v := ?_) rfl (by kernel_rfl) (by kernel_rfl) (by kernel_rfl) (fun _ _ _ h => h) (Or.inl ⟨by rfl, ?_⟩) (by assumption) ?_
                  rotate_left
                  · (intro w0 hSw; (try dsimp only at hSw); go_split_ands; go_simp; with_reducible rfl)
                  try simp only [Act.put, List.setIfInBounds_toArray, List.set_cons_zero, List.set_cons_succ]
                  refine wpAnyH_take (i := 18) (oi := { dst := some 99, op := Go.Op.move (Go.Operand.tmp 1), type := 107, pos := "law.go:110", after := #[], guard := none }) (v := ?_) rfl (by kernel_rfl) (by kernel_rfl) (by kernel_rfl) (fun _ _ _ h => h) (Or.inl ⟨by rfl, ?_⟩) (by assumption) ?_
                  rotate_left
                  · (intro w0 hSw; (try dsimp only at hSw); go_split_ands; go_simp; with_reducible rfl)
                  try simp only [Act.put, List.setIfInBounds_toArray, List.set_cons_zero, List.set_cons_succ]
                  refine wpAnyH_take (i := 19) (oi := { dst := some 100, op := Go.Op.move (Go.Operand.tmp 14), type := 3, pos := "law.go:110", after := #[], guard := none }) (v := ?_) rfl (by kernel_rfl) (by kernel_rfl) (by kernel_rfl) (fun _ _ _ h => h) (Or.inl ⟨by rfl, ?_⟩) (by assumption) ?_
                  rotate_left
                  · (intro w0 hSw; (try dsimp only at hSw); go_split_ands; go_simp; with_reducible rfl)
                  try simp only [Act.put, List.setIfInBounds_toArray, List.set_cons_zero, List.set_cons_succ]
                  refine wpAnyH_take (i := 20) (oi := { dst := some 101, op := Go.Op.indexAddr 107 (Go.Operand.tmp 99) (Go.Operand.tmp 100), type := 0, pos := "law.go:110", after := #[{ on := 18, ground := Go.Ground.data }, { on := 19, ground := Go.Ground.data }], guard := none }) (v := ?_) rfl (by kernel_rfl) (by kernel_rfl) (by kernel_rfl) (fun _ _ _ h => h) (Or.inl ⟨by rfl, ?_⟩) (by assumption) ?_
                  rotate_left
                  · (intro w0 hSw; (try dsimp only at hSw); go_split_ands; go_simp; with_reducible rfl)
                  try simp only [Act.put, List.setIfInBounds_toArray, List.set_cons_zero, List.set_cons_succ]
                  refine wpAnyH_take (i := 21) (oi := { dst := some 102, op := Go.Op.fieldAddr 116 (Go.Operand.tmp 101) 2, type := 0, pos := "law.go:110", after := #[{ on := 20, ground := Go.Ground.data }], guard := none }) (v := ?_) rfl (by kernel_rfl) (by kernel_rfl) (by kernel_rfl) (fun _ _ _ h => h) (Or.inl ⟨by rfl, ?_⟩) (by assumption) ?_
                  rotate_left
                  · (intro w0 hSw; (try dsimp only at hSw); go_split_ands; go_simp; with_reducible rfl)
                  try simp only [Act.put, List.setIfInBounds_toArray, List.set_cons_zero, List.set_cons_succ]
                  refine wpAnyH_take (i := 22) (oi := { dst := some 103, op := Go.Op.load 23 (Go.Operand.tmp 102), type := 23, pos := "law.go:110", after := #[{ on := 21, ground := Go.Ground.data }], guard := none }) (v := ?_) rfl (by kernel_rfl) (by kernel_rfl) (by kernel_rfl) (fun _ _ _ h => h) (Or.inl ⟨by rfl, ?_⟩) (by assumption) ?_
                  rotate_left
                  · (intro w0 hSw; (try dsimp only at hSw); go_split_ands; go_simp; with_reducible rfl)
                  try simp only [Act.put, List.setIfInBounds_toArray, List.set_cons_zero, List.set_cons_succ]
                  obtain ⟨r, M', hc1⟩ := bo_write V F1 F2 p1 p2 M HBOd.out x.ad x.v HAC.out.had HAC.out.hv
                  refine wpAnyH_ready (rs := [11]) (by kernel_rfl) (by simp) ?_
                  refine AllReadyH.cons (o := { dst := some 92, op := Go.Op.call { callee := Go.Callee.value (Go.Operand.func 51), args := #[Go.Operand.tmp 81, Go.Operand.tmp 86, Go.Operand.tmp 91], argTypes := #[83, 23, 23] }, type := 32, pos := "law.go:110", after := #[{ on := 0, ground := Go.Ground.data }, { on := 5, ground := Go.Ground.data }, { on := 10, ground := Go.Ground.data }], guard := none }) rfl (fun K hK => ?_) AllReadyH.nil
                  go_simp
                  go_at_call 51
                  refine hc1.mono ?_
                  rintro e w1 ⟨rfl, hk1, _, hc2⟩
                  have HB1 := Lib.hid (HBd.out.trans (hk1.below (B := w.heap.size) HBd.out.size HF1.out))
                  refine hK.out _ _ ⟨(HCX.out _ HB1.out).1, (HCX.out _ HB1.out).2.1⟩ (fun hHeld => ?_)
                  clear hK K
                  try simp only [Act.put, List.setIfInBounds_toArray, List.set_cons_zero, List.set_cons_succ]
                  refine wpAnyH_ready (rs := [23]) (by kernel_rfl) (by simp) ?_
                  refine AllReadyH.cons (o := { dst := some 104, op := Go.Op.call { callee := Go.Callee.value (Go.Operand.func 63), args := #[Go.Operand.tmp 93, Go.Operand.tmp 98, Go.Operand.tmp 103], argTypes := #[109, 23, 23] }, type := 3, pos := "law.go:110", after := #[{ on := 12, ground := Go.Ground.data }, { on := 17, ground := Go.Ground.data }, { on := 22, ground := Go.Ground.data }, { on := 11, ground := Go.Ground.chain }], guard := none }) rfl (fun K hK => ?_) AllReadyH.nil
                  go_simp
                  go_at_call 63
                  refine hc2.mono ?_
                  rintro e w2' ⟨rfl, hbo2, hk2⟩
                  have HBO2 := Lib.hid hbo2
                  have HB2 := Lib.hid (HBd.out.trans (hk2.below (B := w.heap.size) HBd.out.size (fun k hk => hk.elim (HF1.out k) (HF2.out k))))
                  clear hk1 hk2 hc1 hc2 hbo2
                  refine hK.out _ _ ⟨(HCX.out _ HB2.out).1, (HCX.out _ HB2.out).2.1⟩ (fun hHeld => ?_)
                  clear hK K
                  try simp only [Act.put, List.setIfInBounds_toArray, List.set_cons_zero, List.set_cons_succ]
                  refine wpAnyH_take (i := 24) (oi := { dst := some 105, op := Go.Op.binOp Go.BinOp.neq 3 (Go.Operand.tmp 92) (Go.Operand.tmp 104) 3, type := 4, pos := "law.go:110", after := #[{ on := 11, ground := Go.Ground.data }, { on := 23, ground := Go.Ground.data }], guard := none }) (v := ?_) rfl (by kernel_rfl) (by kernel_rfl) (by kernel_rfl) (fun _ _ _ h => h) (Or.inl ⟨by rfl, ?_⟩) (by assumption) ?_
                  rotate_left
                  · (intro w0 hSw; (try dsimp only at hSw); go_split_ands; go_simp; with_reducible rfl)
                  try simp only [Act.put, List.setIfInBounds_toArray, List.set_cons_zero, List.set_cons_succ]
                  refine wpAnyH_done (by kernel_rfl) ?_ _
                  clear hHeld
                  go_wp2_with fail
                  go_meet
                  case rel => exact ⟨p1, M', F1, rfl, HBO2, HF1, HB2⟩
                · have q1 : (x.op == 1) = false := by simpa using h1
                  by_cases h2 : x.op = 2
                  · have q2 : (x.op == 2) = true := by simpa using h2
                    clear h1 h2
                    go_upto_region 28 with (fail)
                    refine wp_region_held_drew (S := fun w' => (w'.cell? ⟨ab, ao + i * 5 + 1, none⟩ = some (.int .u64 (x.ad : Nat)) ∧ w'.cell? ⟨ab, ao + i * 5 + 3, none⟩ = some (.slice x.sp x.m x.cs))) (by kernel_rfl) ⟨(HCX.out _ HBd.out).1, (HCX.out _ HBd.out).2.2.1⟩ (fun hHeld => ?_)
                    generalize wr.drew = V at HBd HBOd hHeld ⊢
                    refine wpAnyH_take (i := 0) (oi := { dst := some 108, op := Go.Op.move (Go.Operand.tmp 7), type := 83, pos := "law.go:114", after := #[], guard := none }) (v := ?_) rfl (by kernel_rfl) (by kernel_rfl) (by kernel_rfl) (fun _ _ _ h => h) (Or.inl ⟨by rfl, ?_⟩) (by assumption) ?_
                    rotate_left
                    · (intro w0 hSw; (try dsimp only at hSw); go_split_ands; go_simp; with_reducible rfl)
                    try simp only [Act.put, List.setIfInBounds_toArray, List.set_cons_zero, List.set_cons_succ]
                    refine wpAnyH_take (i := 1) (oi := { dst := some 109, op := Go.Op.move (Go.Operand.tmp 1), type := 107, pos := "law.go:114", after := #[], guard := none }) (v := ?_) rfl (by kernel_rfl) (by kernel_rfl) (by kernel_rfl) (fun _ _ _ h => h) (Or.inl ⟨by rfl, ?_⟩) (by assumption) ?_
                    rotate_left
                    · (intro w0 hSw; (try dsimp only at hSw); go_split_ands; go_simp; with_reducible rfl)
                    try simp only [Act.put, List.setIfInBounds_toArray, List.set_cons_zero, List.set_cons_succ]
                    refine wpAnyH_take (i := 2) (oi := { dst := some 110, op := Go.Op.move (Go.Operand.tmp 14), type := 3, pos := "law.go:114", after := #[], guard := none }) (v := ?_) rfl (by kernel_rfl) (by kernel_rfl) (by kernel_rfl) (fun _ _ _ h => h) (Or.inl ⟨by rfl, ?_⟩) (by assumption) ?_
                    rotate_left
                    · (intro w0 hSw; (try dsimp only at hSw); go_split_ands; go_simp; with_reducible rfl)
                    try simp only [Act.put, List.setIfInBounds_toArray, List.set_cons_zero, List.set_cons_succ]
                    refine wpAnyH_take (i := 3) (oi := { dst := some 111, op := Go.Op.indexAddr 107 (Go.Operand.tmp 109) (Go.Operand.tmp 110), type := 0, pos := "law.go:114", after := #[{ on := 1, ground := Go.Ground.data }, { on := 2, ground := Go.Ground.data }], guard := none }) (v := ?_) rfl (by kernel_rfl) (by kernel_rfl) (by kernel_rfl) (fun _ _ _ h => h) (Or.inl ⟨by rfl, ?_⟩) (by assumption) ?_
                    rotate_left
                    · (intro w0 hSw; (try dsimp only at hSw); go_split_ands; go_simp; with_reducible rfl)
                    try simp only [Act.put, List.setIfInBounds_toArray, List.set_cons_zero, List.set_cons_succ]
                    refine wpAnyH_take (i := 4) (oi := { dst := some 112, op := Go.Op.fieldAddr 116 (Go.Operand.tmp 111) 1, type := 0, pos := "law.go:114", after := #[{ on := 3, ground := Go.Ground.data }], guard := none }) (v := ?_) rfl (by kernel_rfl) (by kernel_rfl) (by kernel_rfl) (fun _ _ _ h => h) (Or.inl ⟨by rfl, ?_⟩) (by assumption) ?_
                    rotate_left
                    · (intro w0 hSw; (try dsimp only at hSw); go_split_ands; go_simp; with_reducible rfl)
                    try simp only [Act.put, List.setIfInBounds_toArray, List.set_cons_zero, List.set_cons_succ]
                    refine wpAnyH_take (i := 5) (oi := { dst := some 113, op := Go.Op.load 23 (Go.Operand.tmp 112), type := 23, pos := "law.go:114", after := #[{ on := 4, ground := Go.Ground.data }], guard := none }) (v := ?_) rfl (by kernel_rfl) (by kernel_rfl) (by kernel_rfl) (fun _ _ _ h => h) (Or.inl ⟨by rfl, ?_⟩) (by assumption) ?_
                    rotate_left
                    · (intro w0 hSw; (try dsimp only at hSw); go_split_ands; go_simp; with_reducible rfl)
                    try simp only [Act.put, List.setIfInBounds_toArray, List.set_cons_zero, List.set_cons_succ]
                    refine wpAnyH_take (i := 6) (oi := { dst := some 114, op := Go.Op.move (Go.Operand.tmp 1), type := 107, pos := "law.go:114", after := #[], guard := none }) (v := ?_) rfl (by kernel_rfl) (by kernel_rfl) (by kernel_rfl) (fun _ _ _ h => h) (Or.inl ⟨by rfl, ?_⟩) (by assumption) ?_
                    rotate_left
                    · (intro w0 hSw; (try dsimp only at hSw); go_split_ands; go_simp; with_reducible rfl)
                    try simp only [Act.put, List.setIfInBounds_toArray, List.set_cons_zero, List.set_cons_succ]
                    refine wpAnyH_take (i := 7) (oi := { dst := some 115, op := Go.Op.move (Go.Operand.tmp 14), type := 3, pos := "law.go:114", after := #[], guard := none }) (v := ?_) rfl (by kernel_rfl) (by kernel_rfl) (by kernel_rfl) (fun _ _ _ h => h) (Or.inl ⟨by rfl, ?_⟩) (by assumption) ?_
                    rotate_left
                    · (intro w0 hSw; (try dsimp only at hSw); go_split_ands; go_simp; with_reducible rfl)
                    try simp only [Act.put, List.setIfInBounds_toArray, List.set_cons_zero, List.set_cons_succ]
                    refine wpAnyH_take (i := 8) (oi := { dst := some 116, op := Go.Op.indexAddr 107 (Go.Operand.tmp 114) (Go.Operand.tmp 115), type := 0, pos := "law.go:114", after := #[{ on := 6, ground := Go.Ground.data }, { on := 7, ground := Go.Ground.data }], guard := none }) (v := ?_) rfl (by kernel_rfl) (by kernel_rfl) (by kernel_rfl) (fun _ _ _ h => h) (Or.inl ⟨by rfl, ?_⟩) (by assumption) ?_
                    rotate_left
                    · (intro w0 hSw; (try dsimp only at hSw); go_split_ands; go_simp; with_reducible rfl)
                    try simp only [Act.put, List.setIfInBounds_toArray, List.set_cons_zero, List.set_cons_succ]
                    refine wpAnyH_take (i := 9) (oi := { dst := some 117, op := Go.Op.fieldAddr 116 (Go.Operand.tmp 116) 3, type := 0, pos := "law.go:114", after := #[{ on := 8, ground := Go.Ground.data }], guard := none }) (v := ?_) rfl (by kernel_rfl) (by kernel_rfl) (by kernel_rfl) (fun _ _ _ h => h) (Or.inl ⟨by rfl, ?_⟩) (by assumption) ?_
                    rotate_left
                    · (intro w0 hSw; (try dsimp only at hSw); go_split_ands; go_simp; with_reducible rfl)
                    try simp only [Act.put, List.setIfInBounds_toArray, List.set_cons_zero, List.set_cons_succ]
                    refine wpAnyH_take (i := 10) (oi := { dst := some 118, op := Go.Op.load 114 (Go.Operand.tmp 117), type := 114, pos := "law.go:114", after := #[{ on := 9, ground := Go.Ground.data }], guard := none }) (v := ?_) rfl (by kernel_rfl) (by kernel_rfl) (by kernel_rfl) (fun _ _ _ h => h) (Or.inl ⟨by rfl, ?_⟩) (by assumption) ?_
                    rotate_left
                    · (intro w0 hSw; (try dsimp only at hSw); go_split_ands; go_simp; with_reducible rfl)
                    try simp only [Act.put, List.setIfInBounds_toArray, List.set_cons_zero, List.set_cons_succ]
                    refine wpAnyH_take (i := 12) (oi := { dst := some 120, op := Go.Op.move (Go.Operand.tmp 9), type := 109, pos := "law.go:114", after := #[], guard := none }) (v := ?_) rfl (by kernel_rfl) (by kernel_rfl) (by kernel_rfl) (fun _ _ _ h => h) (Or.inl ⟨by rfl, ?_⟩) (by assumption) ?_
                    rotate_left
                    · (intro w0 hSw; (try dsimp only at hSw); go_split_ands; go_simp; with_reducible rfl)
                    try simp only [Act.put, List.setIfInBounds_toArray, List.set_cons_zero, List.set_cons_succ]
                    refine wpAnyH_take (i := 13) (oi := { dst := some 121, op := Go.Op.move (Go.Operand.tmp 1), type := 107, pos := "law.go:114", after := #[], guard := none }) (v := ?_) rfl (by kernel_rfl) (by kernel_rfl) (by kernel_rfl) (fun _ _ _ h => h) (Or.inl ⟨by rfl, ?_⟩) (by assumption) ?_
                    rotate_left
                    · (intro w0 hSw; (try dsimp only at hSw); go_split_ands; go_simp; with_reducible rfl)
                    try simp only [Act.put, List.setIfInBounds_toArray, List.set_cons_zero, List.set_cons_succ]
                    refine wpAnyH_take (i := 14) (oi := { dst := some 122, op := Go.Op.move (Go.Operand.tmp 14), type := 3, pos := "law.go:114", after := #[], guard := none }) (v := ?_) rfl (by kernel_rfl) (by kernel_rfl) (by kernel_rfl) (fun _ _ _ h => h) (Or.inl ⟨by rfl, ?_⟩) (by assumption) ?_
                    rotate_left
                    · (intro w0 hSw; (try dsimp only at hSw); go_split_ands; go_simp; with_reducible rfl)
                    try simp only [Act.put, List.setIfInBounds_toArray, List.set_cons_zero, List.set_cons_succ]
                    refine wpAnyH_take (i := 15) (oi := { dst := some 123, op := Go.Op.indexAddr 107 (Go.Operand.tmp 121) (Go.Operand.tmp 122), type := 0, pos := "law.go:114", after := #[{ on := 13, ground := Go.Ground.data }, { on := 14, ground := Go.Ground.data }], guard := none }) (v := ?_) rfl (by kernel_rfl) (by kernel_rfl) (by kernel_rfl) (fun _ _ _ h => h) (Or.inl ⟨by rfl, ?_⟩) (by assumption) ?_
                    rotate_left
                    · (intro w0 hSw; (try dsimp only at hSw); go_split_ands; go_simp; with_reducible rfl)
                    try simp only [Act.put, List.setIfInBounds_toArray, List.set_cons_zero, List.set_cons_succ]
                    refine wpAnyH_take (i := 16) (oi := { dst := some 124, op := Go.Op.fieldAddr 116 (Go.Operand.tmp 123) 1, type := 0, pos := "law.go:114", after := #[{ on := 15, ground := Go.Ground.data }], guard := none }) (v := ?_) rfl (by kernel_rfl) (by kernel_rfl) (by kernel_rfl) (fun _ _ _ h => h) (Or.inl ⟨by rfl, ?_⟩) (by assumption) ?_
                    rotate_left
                    · (intro w0 hSw; (try dsimp only at hSw); go_split_ands; go_simp; with_reducible rfl)
                    try simp only [Act.put, List.setIfInBounds_toArray, List.set_cons_zero, List.set_cons_succ]
                    refine wpAnyH_take (i := 17) (oi := { dst := some 125, op := Go.Op.load 23 (Go.Operand.tmp 124), type := 23, pos := "law.go:114", after := #[{ on := 16, ground := Go.Ground.data }], guard := none }) (v := ?_) rfl (by kernel_rfl) (by kernel_rfl) (by kernel_rfl) (fun _ _ _ h => h) (Or.inl ⟨by rfl, ?_⟩) (by assumption) ?_
                    rotate_left
                    · (intro w0 hSw; (try dsimp only at hSw); go_split_ands; go_simp; with_reducible rfl)
                    try simp only [Act.put, List.setIfInBounds_toArray, List.set_cons_zero, List.set_cons_succ]
                    refine wpAnyH_take (i := 18) (oi := { dst := some 126, op := Go.Op.move (Go.Operand.tmp 1), type := 107, pos := "law.go:114", after := #[], guard := none }) (v := ?_) rfl (by kernel_rfl) (by kernel_rfl) (by kernel_rfl) (fun _ _ _ h => h) (Or.inl ⟨by rfl, ?_⟩) (by assumption) ?_
                    rotate_left
                    · (intro w0 hSw; (try dsimp only at hSw); go_split_ands; go_simp; with_reducible rfl)
                    try simp only [Act.put, List.setIfInBounds_toArray, List.set_cons_zero, List.set_cons_succ]
                    refine wpAnyH_take (i := 19) (oi := { dst := some 127, op := Go.Op.move (Go.Operand.tmp 14), type := 3, pos := "law.go:114", after := #[], guard := none }) (v := ?_) rfl (by kernel_rfl) (by kernel_rfl) (by kernel_rfl) (fun _ _ _ h => h) (Or.inl ⟨by rfl, ?_⟩) (by assumption) ?_
                    rotate_left
                    · (intro w0 hSw; (try dsimp only at hSw); go_split_ands; go_simp; with_reducible rfl)
                    try simp only [Act.put, List.setIfInBounds_toArray, List.set_cons_zero, List.set_cons_succ]
                    refine wpAnyH_take (i := 20) (oi := { dst := some 128, op := Go.Op.indexAddr 107 (Go.Operand.tmp 126) (Go.Operand.tmp 127), type := 0, pos := "law.go:114", after := #[{ on := 18, ground := Go.Ground.data }, { on := 19, ground := Go.Ground.data }], guard := none }) (v := ?_) rfl (by kernel_rfl) (by kernel_rfl) (by kernel_rfl) (fun _ _ _ h => h) (Or.inl ⟨by rfl, ?_⟩) (by assumption) ?_
                    rotate_left
                    · (intro w0 hSw; (try dsimp only at hSw); go_split_ands; go_simp; with_reducible rfl)
                    try simp only [Act.put, List.setIfInBounds_toArray, List.set_cons_zero, List.set_cons_succ]
                    refine wpAnyH_take (i := 21) (oi := { dst := some 129, op := Go.Op.fieldAddr 116 (Go.Operand.tmp 128) 3, type := 0, pos := "law.go:114", after := #[{ on := 20, ground := Go.Ground.data }], guard := none }) (v := ?_) rfl (by kernel_rfl) (by kernel_rfl) (by kernel_rfl) (fun _ _ _ h => h) (Or.inl ⟨by rfl, ?_⟩) (by assumption) ?_
                    rotate_left
                    · (intro w0 hSw; (try dsimp only at hSw); go_split_ands; go_simp; with_reducible rfl)
                    try simp only [Act.put, List.setIfInBounds_toArray, List.set_cons_zero, List.set_cons_succ]
                    refine wpAnyH_take (i := 22) (oi := { dst := some 130, op := Go.Op.load 114 (Go.Operand.tmp 129), type := 114, pos := "law.go:114", after := #[{ on := 21, ground := Go.Ground.data }], guard := none }) (v := ?_) rfl (by kernel_rfl) (by kernel_rfl) (by kernel_rfl) (fun _ _ _ h => h) (Or.inl ⟨by rfl, ?_⟩) (by assumption) ?_
                    rotate_left
                    · (intro w0 hSw; (try dsimp only at hSw); go_split_ands; go_simp; with_reducible rfl)
                    try simp only [Act.put, List.setIfInBounds_toArray, List.set_cons_zero, List.set_cons_succ]
                    obtain ⟨r, M', hc1⟩ := bo_load V F1 F2 p1 p2 M HBOd.out x.ad x.m x.cs x.sp x.l HAC.out.had HAC.out.hm HAC.out.hcs (fun h0 => by obtain ⟨sb, so, e, hs, hc⟩ := HAC.out.src h0; exact ⟨sb, so, e, fun h => by have := HF1.out _ h; omega, fun h => by have := HF2.out _ h; omega, by have := HBd.out.size; omega, fun j hj => (HBd.out.cell (p := ⟨sb, so + j, none⟩) hs).trans (hc j hj)⟩) HAC.out.hl
                    refine wpAnyH_ready (rs := [11]) (by kernel_rfl) (by simp) ?_
                    refine AllReadyH.cons (o := { dst := some 119, op := Go.Op.call { callee := Go.Callee.value (Go.Operand.func 64), args := #[Go.Operand.tmp 108, Go.Operand.tmp 113, Go.Operand.tmp 118], argTypes := #[83, 23, 114] }, type := 32, pos := "law.go:114", after := #[{ on := 0, ground := Go.Ground.data }, { on := 5, ground := Go.Ground.data }, { on := 10, ground := Go.Ground.data }], guard := none }) rfl (fun K hK => ?_) AllReadyH.nil
                    go_simp
                    go_at_call 64
                    refine hc1.mono ?_
                    rintro e w1 ⟨rfl, hk1, _, hc2⟩
                    have HB1 := Lib.hid (HBd.out.trans (hk1.below (B := w.heap.size) HBd.out.size HF1.out))
                    refine hK.out _ _ ⟨(HCX.out _ HB1.out).1, (HCX.out _ HB1.out).2.2.1⟩ (fun hHeld => ?_)
                    clear hK K
                    try simp only [Act.put, List.setIfInBounds_toArray, List.set_cons_zero, List.set_cons_succ]
                    refine wpAnyH_ready (rs := [23]) (by kernel_rfl) (by simp) ?_
                    refine AllReadyH.cons (o := { dst := some 131, op := Go.Op.call { callee := Go.Callee.value (Go.Operand.func 65), args := #[Go.Operand.tmp 120, Go.Operand.tmp 125, Go.Operand.tmp 130], argTypes := #[109, 23, 114] }, type := 3, pos := "law.go:114", after := #[{ on := 12, ground := Go.Ground.data }, { on := 17, ground := Go.Ground.data }, { on := 22, ground := Go.Ground.data }, { on := 11, ground := Go.Ground.chain }], guard := none }) rfl (fun K hK => ?_) AllReadyH.nil
                    go_simp
                    go_at_call 65
                    refine hc2.mono ?_
                    rintro e w2' ⟨rfl, hbo2, hk2⟩
                    have HBO2 := Lib.hid hbo2
                    have HB2 := Lib.hid (HBd.out.trans (hk2.below (B := w.heap.size) HBd.out.size (fun k hk => hk.elim (HF1.out k) (HF2.out k))))
                    clear hk1 hk2 hc1 hc2 hbo2
                    refine hK.out _ _ ⟨(HCX.out _ HB2.out).1, (HCX.out _ HB2.out).2.2.1⟩ (fun hHeld => ?_)
                    clear hK K
                    try simp only [Act.put, List.setIfInBounds_toArray, List.set_cons_zero, List.set_cons_succ]
                    refine wpAnyH_take (i := 24) (oi := { dst := some 132, op := Go.Op.binOp Go.BinOp.neq 3 (Go.Operand.tmp 119) (Go.Operand.tmp 131) 3, type := 4, pos := "law.go:114", after := #[{ on := 11, ground := Go.Ground.data }, { on := 23, ground := Go.Ground.data }], guard := none }) (v := ?_) rfl (by kernel_rfl) (by kernel_rfl) (by kernel_rfl) (fun _ _ _ h => h) (Or.inl ⟨by rfl, ?_⟩) (by assumption) ?_
                    rotate_left
                    · (intro w0 hSw; (try dsimp only at hSw); go_split_ands; go_simp; with_reducible rfl)
                    try simp only [Act.put, List.setIfInBounds_toArray, List.set_cons_zero, List.set_cons_succ]
                    refine wpAnyH_done (by kernel_rfl) ?_ _
                    clear hHeld
                    go_wp2_with fail
                    go_meet
                    case rel => exact ⟨p1, M', F1, rfl, HBO2, HF1, HB2⟩
                  · have q2 : (x.op == 2) = false := by simpa using h2
                    by_cases h3 : x.op = 3
                    · have q3 : (x.op == 3) = true := by simpa using h3
                      clear h1 h2 h3 HBd HBOd
                      go_upto_region 32 with (go_at_call 66; refine (bo_twin _ F1 F2 p1 p2 M HBO.out).mono ?_; rintro e w1 ⟨rfl, hb1, ⟨v1, B1, C1, hm1⟩, hbo1, hf1⟩; have HB1 := Lib.hid (HB.out.trans (hb1.mono HB.out.size)); have HM1 := Lib.hid hm1; have HBO1 := Lib.hid hbo1; have HFL := Lib.hid hf1; have HSZ1 := Lib.hid hb1.size; clear hb1 hm1 hbo1 hf1)
                      have hbd : Below w1.heap.size w1 w1.drew := below_drewN (Below.refl _ _) 1
                      have HBd := Lib.hid (HB1.out.trans (hbd.mono HB1.out.size))
                      have HMd := Lib.hid (HM1.out.past hbd)
                      have HBOd := Lib.hid (HBO1.out.past hbd)
                      obtain ⟨u1, hu1, hu2⟩ := wrap_nat ((x.v : Int) + 1)
                      clear hbd
                      refine wp_region_held_drew (S := fun w' => (w'.cell? ⟨ab, ao + i * 5 + 1, none⟩ = some (.int .u64 (x.ad : Nat)) ∧ w'.cell? ⟨ab, ao + i * 5 + 2, none⟩ = some (.int .u64 (x.v : Nat)))) (by kernel_rfl) ⟨(HCX.out _ HBd.out).1, (HCX.out _ HBd.out).2.1⟩ (fun hHeld => ?_)
                      generalize w1.drew = V at HBd HMd HBOd hHeld ⊢
                      refine wpAnyH_take (i := 0) (oi := { dst := some 137, op := Go.Op.move (Go.Operand.tmp 7), type := 83, pos := "law.go:119", after := #[], guard := none }) (v := ?_) rfl (by kernel_rfl) (by kernel_rfl) (by kernel_rfl) (fun _ _ _ h => h) (Or.inl ⟨by rfl, ?_⟩) (by assumption) ?_
                      rotate_left
                      · (intro w0 hSw; (try dsimp only at hSw); go_split_ands; go_simp; with_reducible rfl)
                      try simp only [Act.put, List.setIfInBounds_toArray, List.set_cons_zero, List.set_cons_succ]
                      refine wpAnyH_take (i := 1) (oi := { dst := some 138, op := Go.Op.move (Go.Operand.tmp 1), type := 107, pos := "law.go:119", after := #[], guard := none }) (v := ?_) rfl (by kernel_rfl) (by kernel_rfl) (by kernel_rfl) (fun _ _ _ h => h) (Or.inl ⟨by rfl, ?_⟩) (by assumption) ?_
                      rotate_left
                      · (intro w0 hSw; (try dsimp only at hSw); go_split_ands; go_simp; with_reducible rfl)
                      try simp only [Act.put, List.setIfInBounds_toArray, List.set_cons_zero, List.set_cons_succ]
                      refine wpAnyH_take (i := 2) (oi := { dst := some 139, op := Go.Op.move (Go.Operand.tmp 14), type := 3, pos := "law.go:119", after := #[], guard := none }) (v := ?_) rfl (by kernel_rfl) (by kernel_rfl) (by kernel_rfl) (fun _ _ _ h => h) (Or.inl ⟨by rfl, ?_⟩) (by assumption) ?_
                      rotate_left
                      · (intro w0 hSw; (try dsimp only at hSw); go_split_ands; go_simp; with_reducible rfl)
                      try simp only [Act.put, List.setIfInBounds_toArray, List.set_cons_zero, List.set_cons_succ]
                      refine wpAnyH_take (i := 3) (oi := { dst := some 140, op := Go.Op.indexAddr 107 (Go.Operand.tmp 138) (Go.Operand.tmp 139), type := 0, pos := "law.go:119", after := #[{ on := 1, ground := Go.Ground.data }, { on := 2, ground := Go.Ground.data }], guard := none }) (v := ?_) rfl (by kernel_rfl) (by kernel_rfl) (by kernel_rfl) (fun _ _ _ h => h) (Or.inl ⟨by rfl, ?_⟩) (by assumption) ?_
                      rotate_left
                      · (intro w0 hSw; (try dsimp only at hSw); go_split_ands; go_simp; with_reducible rfl)
                      try simp only [Act.put, List.setIfInBounds_toArray, List.set_cons_zero, List.set_cons_succ]
                      refine wpAnyH_take (i := 4) (oi := { dst := some 141, op := Go.Op.fieldAddr 116 (Go.Operand.tmp 140) 1, type := 0, pos := "law.go:119", after := #[{ on := 3, ground := Go.Ground.data }], guard := none }) (v := ?_) rfl (by kernel_rfl) (by kernel_rfl) (by kernel_rfl) (fun _ _ _ h => h) (Or.inl ⟨by rfl, ?_⟩) (by assumption) ?_
                      rotate_left
                      · (intro w0 hSw; (try dsimp only at hSw); go_split_ands; go_simp; with_reducible rfl)
                      try simp only [Act.put, List.setIfInBounds_toArray, List.set_cons_zero, List.set_cons_succ]
                      refine wpAnyH_take (i := 5) (oi := { dst := some 142, op := Go.Op.load 23 (Go.Operand.tmp 141), type := 23, pos := "law.go:119", after := #[{ on := 4, ground := Go.Ground.data }], guard := none }) (v := ?_) rfl (by kernel_rfl) (by kernel_rfl) (by kernel_rfl) (fun _ _ _ h => h) (Or.inl ⟨by rfl, ?_⟩) (by assumption) ?_
                      rotate_left
                      · (intro w0 hSw; (try dsimp only at hSw); go_split_ands; go_simp; with_reducible rfl)
                      try simp only [Act.put, List.setIfInBounds_toArray, List.set_cons_zero, List.set_cons_succ]
                      refine wpAnyH_take (i := 6) (oi := { dst := some 143, op := Go.Op.move (Go.Operand.tmp 1), type := 107, pos := "law.go:119", after := #[], guard := none }) (v := ?_) rfl (by kernel_rfl) (by kernel_rfl) (by kernel_rfl) (fun _ _ _ h => h) (Or.inl ⟨by rfl, ?_⟩) (by assumption) ?_
                      rotate_left
                      · (intro w0 hSw; (try dsimp only at hSw); go_split_ands; go_simp; with_reducible rfl)
                      try simp only [Act.put, List.setIfInBounds_toArray, List.set_cons_zero, List.set_cons_succ]
                      refine wpAnyH_take (i := 7) (oi := { dst := some 144, op := Go.Op.move (Go.Operand.tmp 14), type := 3, pos := "law.go:119", after := #[], guard := none }) (v := ?_) rfl (by kernel_rfl) (by kernel_rfl) (by kernel_rfl) (fun _ _ _ h => h) (Or.inl ⟨by rfl, ?_⟩) (by assumption) ?_
                      rotate_left
                      · (intro w0 hSw; (try dsimp only at hSw); go_split_ands; go_simp; with_reducible rfl)
                      try simp only [Act.put, List.setIfInBounds_toArray, List.set_cons_zero, List.set_cons_succ]
                      refine wpAnyH_take (i := 8) (oi := { dst := some 145, op := Go.Op.indexAddr 107 (Go.Operand.tmp 143) (Go.Operand.tmp 144), type := 0, pos := "law.go:119", after := #[{ on := 6, ground := Go.Ground.data }, { on := 7, ground := Go.Ground.data }], guard := none }) (v := ?_) rfl (by kernel_rfl) (by kernel_rfl) (by kernel_rfl) (fun _ _ _ h => h) (Or.inl ⟨by rfl, ?_⟩) (by assumption) ?_
                      rotate_left
                      · (intro w0 hSw; (try dsimp only at hSw); go_split_ands; go_simp; with_reducible rfl)
                      try simp only [Act.put, List.setIfInBounds_toArray, List.set_cons_zero, List.set_cons_succ]
                      refine wpAnyH_take (i := 9) (oi := { dst := some 146, op := Go.Op.fieldAddr 116 (Go.Operand.tmp 145) 2, type := 0, pos := "law.go:119", after := #[{ on := 8, ground := Go.Ground.data }], guard := none }) (v := ?_) rfl (by kernel_rfl) (by kernel_rfl) (by kernel_rfl) (fun _ _ _ h => h) (Or.inl ⟨by rfl, ?_⟩) (by assumption) ?_
                      rotate_left
                      · (intro w0 hSw; (try dsimp only at hSw); go_split_ands; go_simp; with_reducible rfl)
                      try simp only [Act.put, List.setIfInBounds_toArray, List.set_cons_zero, List.set_cons_succ]
                      refine wpAnyH_take (i := 10) (oi := { dst := some 147, op := Go.Op.load 23 (Go.Operand.tmp 146), type := 23, pos := "law.go:119", after := #[{ on := 9, ground := Go.Ground.data }], guard := none }) (v := ?_) rfl (by kernel_rfl) (by kernel_rfl) (by kernel_rfl) (fun _ _ _ h => h) (Or.inl ⟨by rfl, ?_⟩) (by assumption) ?_
                      rotate_left
                      · (intro w0 hSw; (try dsimp only at hSw); go_split_ands; go_simp; with_reducible rfl)
                      try simp only [Act.put, List.setIfInBounds_toArray, List.set_cons_zero, List.set_cons_succ]
                      refine wpAnyH_take (i := 11) (oi := { dst := some 148, op := Go.Op.binOp Go.BinOp.add 23 (Go.Operand.tmp 147) (Go.Operand.const (Go.Value.int Go.IntKind.u64 1)) 23, type := 23, pos := "law.go:119", after := #[{ on := 10, ground := Go.Ground.data }], guard := none }) (v := ?_) rfl (by kernel_rfl) (by kernel_rfl) (by kernel_rfl) (fun _ _ _ h => h) (Or.inl ⟨by rfl, ?_⟩) (by assumption) ?_
                      rotate_left
                      · (intro w0 hSw; (try dsimp only at hSw); go_split_ands; go_simp; with_reducible rfl)
                      try simp only [Act.put, List.setIfInBounds_toArray, List.set_cons_zero, List.set_cons_succ]
                      obtain ⟨r, M', hc1⟩ := write_some HMd.out x.ad u1 HAC.out.had hu2
                      refine wpAnyH_ready (rs := [12]) (by kernel_rfl) (by simp) ?_
                      refine AllReadyH.cons (o := { dst := some 149, op := Go.Op.call { callee := Go.Callee.value (Go.Operand.func 51), args := #[Go.Operand.tmp 137, Go.Operand.tmp 142, Go.Operand.tmp 148], argTypes := #[83, 23, 23] }, type := 32, pos := "law.go:119", after := #[{ on := 0, ground := Go.Ground.data }, { on := 5, ground := Go.Ground.data }, { on := 11, ground := Go.Ground.data }], guard := none }) rfl (fun K hK => ?_) AllReadyH.nil
                      go_simp
                      try rw [hu1]
                      go_at_call 51
                      refine hc1.mono ?_
                      rintro e w2' ⟨rfl, hk1, _⟩
                      have HB2 := Lib.hid (HBd.out.trans (hk1.below (B := w.heap.size) HBd.out.size HF1.out))
                      have HBO2 := Lib.hid (HBOd.out.kp hk1 (fun k hk hk1 => by have := HFL.out k hk1; omega) (fun k hk hk1 => by obtain ⟨_, _, h3⟩ := HBO.out; exact h3 k hk1 hk))
                      have HF2' : Hid (∀ k, (fun k => wr.heap.size ≤ k ∧ k < w1.heap.size) k → w.heap.size ≤ k) := Lib.hid (fun k hk => Nat.le_trans HB.out.size hk.1)
                      clear hk1 hc1
                      refine hK.out _ _ ⟨(HCX.out _ HB2.out).1, (HCX.out _ HB2.out).2.1⟩ (fun hHeld => ?_)
                      clear hK K
                      try simp only [Act.put, List.setIfInBounds_toArray, List.set_cons_zero, List.set_cons_succ]
                      refine wpAnyH_done (by kernel_rfl) ?_ _
                      clear hHeld
                      go_wp2
                      go_meet
                      case rel => exact ⟨_, _, _, rfl, HBO2, HF2', HB2⟩
                    · have q3 : (x.op == 3) = false := by simpa using h3
                      clear h1 h2 h3
                      go_wp2
                      go_meet
                      case rel => exact ⟨p1, M, F1, rfl, HBO, HF1, HB⟩
              case rest =>
                obtain ⟨p1', M', F1', rfl, HBOc, HFc, HBc⟩ := hcut
                clear HBO HF1 HB
                go_upto_region 36 with (fail)
                have hbd : Below wc.heap.size wc wc.drew := below_drewN (Below.refl _ _) 1
                have HBd := Lib.hid (HBc.out.trans (hbd.mono HBc.out.size))
                have HBOd := Lib.hid (HBOc.out.past hbd)
                clear hbd HBc HBOc
                refine wp_region_held_drew (S := fun w' => (w'.cell? ⟨ab, ao + i * 5 + 1, none⟩ = some (.int .u64 (x.ad : Nat)) ∧ w'.cell? ⟨ab, ao + i * 5 + 4, none⟩ = some (.int .i64 x.N))) (by kernel_rfl) ⟨(HCX.out _ HBd.out).1, (HCX.out _ HBd.out).2.2.2⟩ (fun hHeld => ?_)
                generalize wc.drew = V at HBd HBOd hHeld ⊢
                refine wpAnyH_take (i := 0) (oi := { dst := some 153, op := Go.Op.move (Go.Operand.tmp 7), type := 83, pos := "law.go:125", after := #[], guard := none }) (v := ?_) rfl (by kernel_rfl) (by kernel_rfl) (by kernel_rfl) (fun _ _ _ h => h) (Or.inl ⟨by rfl, ?_⟩) (by assumption) ?_
                rotate_left
                · (intro w0 hSw; (try dsimp only at hSw); go_split_ands; go_simp; with_reducible rfl)
                try simp only [Act.put, List.setIfInBounds_toArray, List.set_cons_zero, List.set_cons_succ]
                refine wpAnyH_take (i := 1) (oi := { dst := some 154, op := Go.Op.move (Go.Operand.tmp 9), type := 109, pos := "law.go:125", after := #[], guard := none }) (v := ?_) rfl (by kernel_rfl) (by kernel_rfl) (by kernel_rfl) (fun _ _ _ h => h) (Or.inl ⟨by rfl, ?_⟩) (by assumption) ?_
                rotate_left
                · (intro w0 hSw; (try dsimp only at hSw); go_split_ands; go_simp; with_reducible rfl)
                try simp only [Act.put, List.setIfInBounds_toArray, List.set_cons_zero, List.set_cons_succ]
                refine wpAnyH_take (i := 2) (oi := { dst := some 155, op := Go.Op.move (Go.Operand.tmp 1), type := 107, pos := "law.go:125", after := #[], guard := none }) (v := ?_) rfl (by kernel_rfl) (by kernel_rfl) (by kernel_rfl) (fun _ _ _ h => h) (Or.inl ⟨by rfl, ?_⟩) (by assumption) ?_
                rotate_left
                · (intro w0 hSw; (try dsimp only at hSw); go_split_ands; go_simp; with_reducible rfl)
                try simp only [Act.put, List.setIfInBounds_toArray, List.set_cons_zero, List.set_cons_succ]
                refine wpAnyH_take (i := 3) (oi := { dst := some 156, op := Go.Op.move (Go.Operand.tmp 14), type := 3, pos := "law.go:125", after := #[], guard := none }) (v := ?_) rfl (by kernel_rfl) (by kernel_rfl) (by kernel_rfl) (fun _ _ _ h => h) (Or.inl ⟨by rfl, ?_⟩) (by assumption) ?_
                rotate_left
                · (intro w0 hSw; (try dsimp only at hSw); go_split_ands; go_simp; with_reducible rfl)
                try simp only [Act.put, List.setIfInBounds_toArray, List.set_cons_zero, List.set_cons_succ]
                refine wpAnyH_take (i := 4) (oi := { dst := some 157, op := Go.Op.indexAddr 107 (Go.Operand.tmp 155) (Go.Operand.tmp 156), type := 0, pos := "law.go:125", after := #[{ on := 2, ground := Go.Ground.data }, { on := 3, ground := Go.Ground.data }], guard := none }) (v := ?_) rfl (by kernel_rfl) (by kernel_rfl) (by kernel_rfl) (fun _ _ _ h => h) (Or.inl ⟨by rfl, ?_⟩) (by assumption) ?_
                rotate_left
                · (intro w0 hSw; (try dsimp only at hSw); go_split_ands; go_simp; with_reducible rfl)
                try simp only [Act.put, List.setIfInBounds_toArray, List.set_cons_zero, List.set_cons_succ]
                refine wpAnyH_take (i := 5) (oi := { dst := some 158, op := Go.Op.fieldAddr 116 (Go.Operand.tmp 157) 1, type := 0, pos := "law.go:125", after := #[{ on := 4, ground := Go.Ground.data }], guard := none }) (v := ?_) rfl (by kernel_rfl) (by kernel_rfl) (by kernel_rfl) (fun _ _ _ h => h) (Or.inl ⟨by rfl, ?_⟩) (by assumption) ?_
                rotate_left
                · (intro w0 hSw; (try dsimp only at hSw); go_split_ands; go_simp; with_reducible rfl)
                try simp only [Act.put, List.setIfInBounds_toArray, List.set_cons_zero, List.set_cons_succ]
                refine wpAnyH_take (i := 6) (oi := { dst := some 159, op := Go.Op.load 23 (Go.Operand.tmp 158), type := 23, pos := "law.go:125", after := #[{ on := 5, ground := Go.Ground.data }], guard := none }) (v := ?_) rfl (by kernel_rfl) (by kernel_rfl) (by kernel_rfl) (fun _ _ _ h => h) (Or.inl ⟨by rfl, ?_⟩) (by assumption) ?_
                rotate_left
                · (intro w0 hSw; (try dsimp only at hSw); go_split_ands; go_simp; with_reducible rfl)
                try simp only [Act.put, List.setIfInBounds_toArray, List.set_cons_zero, List.set_cons_succ]
                refine wpAnyH_take (i := 7) (oi := { dst := some 160, op := Go.Op.move (Go.Operand.tmp 1), type := 107, pos := "law.go:125", after := #[], guard := none }) (v := ?_) rfl (by kernel_rfl) (by kernel_rfl) (by kernel_rfl) (fun _ _ _ h => h) (Or.inl ⟨by rfl, ?_⟩) (by assumption) ?_
                rotate_left
                · (intro w0 hSw; (try dsimp only at hSw); go_split_ands; go_simp; with_reducible rfl)
                try simp only [Act.put, List.setIfInBounds_toArray, List.set_cons_zero, List.set_cons_succ]
                refine wpAnyH_take (i := 8) (oi := { dst := some 161, op := Go.Op.move (Go.Operand.tmp 14), type := 3, pos := "law.go:125", after := #[], guard := none }) (v := ?_) rfl (by kernel_rfl) (by kernel_rfl) (by kernel_rfl) (fun _ _ _ h => h) (Or.inl ⟨by rfl, ?_⟩) (by assumption) ?_
                rotate_left
                · (intro w0 hSw; (try dsimp only at hSw); go_split_ands; go_simp; with_reducible rfl)
                try simp only [Act.put, List.setIfInBounds_toArray, List.set_cons_zero, List.set_cons_succ]
                refine wpAnyH_take (i := 9) (oi := { dst := some 162, op := Go.Op.indexAddr 107 (Go.Operand.tmp 160) (Go.Operand.tmp 161), type := 0, pos := "law.go:125", after := #[{ on := 7, ground := Go.Ground.data }, { on := 8, ground := Go.Ground.data }], guard := none }) (v := ?_) rfl (by kernel_rfl) (by kernel_rfl) (by kernel_rfl) (fun _ _ _ h => h) (Or.inl ⟨by rfl, ?_⟩) (by assumption) ?_
                rotate_left
                · (intro w0 hSw; (try dsimp only at hSw); go_split_ands; go_simp; with_reducible rfl)
                try simp only [Act.put, List.setIfInBounds_toArray, List.set_cons_zero, List.set_cons_succ]
                refine wpAnyH_take (i := 10) (oi := { dst := some 163, op := Go.Op.fieldAddr 116 (Go.Operand.tmp 162) 4, type := 0, pos := "law.go:125", after := #[{ on := 9, ground := Go.Ground.data }], guard := none }) (v := ?_) rfl (by kernel_rfl) (by kernel_rfl) (by kernel_rfl) (fun _ _ _ h => h) (Or.inl ⟨by rfl, ?_⟩) (by assumption) ?_
                rotate_left
                · (intro w0 hSw; (try dsimp only at hSw); go_split_ands; go_simp; with_reducible rfl)
                try simp only [Act.put, List.setIfInBounds_toArray, List.set_cons_zero, List.set_cons_succ]
                refine wpAnyH_take (i := 11) (oi := { dst := some 164, op := Go.Op.load 3 (Go.Operand.tmp 163), type := 3, pos := "law.go:125", after := #[{ on := 10, ground := Go.Ground.data }], guard := none }) (v := ?_) rfl (by kernel_rfl) (by kernel_rfl) (by kernel_rfl) (fun _ _ _ h => h) (Or.inl ⟨by rfl, ?_⟩) (by assumption) ?_
                rotate_left
                · (intro w0 hSw; (try dsimp only at hSw); go_split_ands; go_simp; with_reducible rfl)
                try simp only [Act.put, List.setIfInBounds_toArray, List.set_cons_zero, List.set_cons_succ]
                refine wpAnyH_ready (rs := [12]) (by kernel_rfl) (by simp) ?_
                refine AllReadyH.cons (o := { dst := some 165, op := Go.Op.call { callee := Go.Callee.value (Go.Operand.func 67), args := #[Go.Operand.tmp 153, Go.Operand.tmp 154, Go.Operand.tmp 159, Go.Operand.tmp 164], argTypes := #[83, 109, 23, 3] }, type := 4, pos := "law.go:125", after := #[{ on := 0, ground := Go.Ground.data }, { on := 1, ground := Go.Ground.data }, { on := 6, ground := Go.Ground.data }, { on := 11, ground := Go.Ground.data }], guard := none }) rfl (fun K hK => ?_) AllReadyH.nil
                go_simp
                go_at_call 67
                refine (looks_c HBOd.out x.ad x.N HAC.out.had HAC.out.hN).mono ?_
                rintro e w1 ⟨rfl, hb1⟩
                have HB1 := Lib.hid (HBd.out.trans (hb1.mono HBd.out.size))
                have HBO1 := Lib.hid (HBOd.out.past hb1)
                clear hb1
                refine hK.out _ _ ⟨(HCX.out _ HB1.out).1, (HCX.out _ HB1.out).2.2.2⟩ (fun hHeld => ?_)
                clear hK K
                try simp only [Act.put, List.setIfInBounds_toArray, List.set_cons_zero, List.set_cons_succ]
                refine wpAnyH_take (i := 13) (oi := { dst := some 166, op := Go.Op.unOp Go.UnOp.not 4 (Go.Operand.tmp 165), type := 4, pos := "law.go:125", after := #[{ on := 12, ground := Go.Ground.data }], guard := none }) (v := ?_) rfl (by kernel_rfl) (by kernel_rfl) (by kernel_rfl) (fun _ _ _ h => h) (Or.inl ⟨by rfl, ?_⟩) (by assumption) ?_
                rotate_left
                · (intro w0 hSw; (try dsimp only at hSw); go_split_ands; go_simp; with_reducible rfl)
                try simp only [Act.put, List.setIfInBounds_toArray, List.set_cons_zero, List.set_cons_succ]
                refine wpAnyH_take (i := 14) (oi := { dst := some 167, op := Go.Op.move (Go.Operand.tmp 166), type := 4, pos := "law.go:125", after := #[{ on := 13, ground := Go.Ground.data }, { on := 12, ground := Go.Ground.chain }], guard := none }) (v := ?_) rfl (by kernel_rfl) (by kernel_rfl) (by kernel_rfl) (fun _ _ _ h => h) (Or.inl ⟨by rfl, ?_⟩) (by assumption) ?_
                rotate_left
                · (intro w0 hSw; (try dsimp only at hSw); go_split_ands; go_simp; with_reducible rfl)
                try simp only [Act.put, List.setIfInBounds_toArray, List.set_cons_zero, List.set_cons_succ]
                refine wpAnyH_take (i := 15) (oi := { dst := some 168, op := Go.Op.move (Go.Operand.tmp 7), type := 83, pos := "law.go:125", after := #[{ on := 14, ground := Go.Ground.guard }], guard := some (14, false) }) (v := ?_) rfl (by kernel_rfl) (by kernel_rfl) (by kernel_rfl) (fun _ _ _ h => h) (Or.inl ⟨by rfl, ?_⟩) (by assumption) ?_
                rotate_left
                · (intro w0 hSw; (try dsimp only at hSw); go_split_ands; go_simp; with_reducible rfl)
                try simp only [Act.put, List.setIfInBounds_toArray, List.set_cons_zero, List.set_cons_succ]
                refine wpAnyH_take (i := 16) (oi := { dst := some 169, op := Go.Op.move (Go.Operand.tmp 9), type := 109, pos := "law.go:125", after := #[{ on := 14, ground := Go.Ground.guard }], guard := some (14, false) }) (v := ?_) rfl (by kernel_rfl) (by kernel_rfl) (by kernel_rfl) (fun _ _ _ h => h) (Or.inl ⟨by rfl, ?_⟩) (by assumption) ?_
                rotate_left
                · (intro w0 hSw; (try dsimp only at hSw); go_split_ands; go_simp; with_reducible rfl)
                try simp only [Act.put, List.setIfInBounds_toArray, List.set_cons_zero, List.set_cons_succ]
                refine wpAnyH_take (i := 17) (oi := { dst := some 170, op := Go.Op.move (Go.Operand.tmp 2), type := 23, pos := "law.go:125", after := #[{ on := 14, ground := Go.Ground.guard }], guard := some (14, false) }) (v := ?_) rfl (by kernel_rfl) (by kernel_rfl) (by kernel_rfl) (fun _ _ _ h => h) (Or.inl ⟨by rfl, ?_⟩) (by assumption) ?_
                rotate_left
                · (intro w0 hSw; (try dsimp only at hSw); go_split_ands; go_simp; with_reducible rfl)
                try simp only [Act.put, List.setIfInBounds_toArray, List.set_cons_zero, List.set_cons_succ]
                refine wpAnyH_take (i := 18) (oi := { dst := some 171, op := Go.Op.move (Go.Operand.tmp 1), type := 107, pos := "law.go:125", after := #[{ on := 14, ground := Go.Ground.guard }], guard := some (14, false) }) (v := ?_) rfl (by kernel_rfl) (by kernel_rfl) (by kernel_rfl) (fun _ _ _ h => h) (Or.inl ⟨by rfl, ?_⟩) (by assumption) ?_
                rotate_left
                · (intro w0 hSw; (try dsimp only at hSw); go_split_ands; go_simp; with_reducible rfl)
                try simp only [Act.put, List.setIfInBounds_toArray, List.set_cons_zero, List.set_cons_succ]
                refine wpAnyH_take (i := 19) (oi := { dst := some 172, op := Go.Op.move (Go.Operand.tmp 14), type := 3, pos := "law.go:125", after := #[{ on := 14, ground := Go.Ground.guard }], guard := some (14, false) }) (v := ?_) rfl (by kernel_rfl) (by kernel_rfl) (by kernel_rfl) (fun _ _ _ h => h) (Or.inl ⟨by rfl, ?_⟩) (by assumption) ?_
                rotate_left
                · (intro w0 hSw; (try dsimp only at hSw); go_split_ands; go_simp; with_reducible rfl)
                try simp only [Act.put, List.setIfInBounds_toArray, List.set_cons_zero, List.set_cons_succ]
                refine wpAnyH_take (i := 20) (oi := { dst := some 173, op := Go.Op.indexAddr 107 (Go.Operand.tmp 171) (Go.Operand.tmp 172), type := 0, pos := "law.go:125", after := #[{ on := 18, ground := Go.Ground.data }, { on := 19, ground := Go.Ground.data }, { on := 14, ground := Go.Ground.guard }], guard := some (14, false) }) (v := ?_) rfl (by kernel_rfl) (by kernel_rfl) (by kernel_rfl) (fun _ _ _ h => h) (Or.inl ⟨by rfl, ?_⟩) (by assumption) ?_
                rotate_left
                · (intro w0 hSw; (try dsimp only at hSw); go_split_ands; go_simp; with_reducible rfl)
                try simp only [Act.put, List.setIfInBounds_toArray, List.set_cons_zero, List.set_cons_succ]
                refine wpAnyH_take (i := 21) (oi := { dst := some 174, op := Go.Op.fieldAddr 116 (Go.Operand.tmp 173) 4, type := 0, pos := "law.go:125", after := #[{ on := 20, ground := Go.Ground.data }, { on := 14, ground := Go.Ground.guard }], guard := some (14, false) }) (v := ?_) rfl (by kernel_rfl) (by kernel_rfl) (by kernel_rfl) (fun _ _ _ h => h) (Or.inl ⟨by rfl, ?_⟩) (by assumption) ?_
                rotate_left
                · (intro w0 hSw; (try dsimp only at hSw); go_split_ands; go_simp; with_reducible rfl)
                try simp only [Act.put, List.setIfInBounds_toArray, List.set_cons_zero, List.set_cons_succ]
                refine wpAnyH_take (i := 22) (oi := { dst := some 175, op := Go.Op.load 3 (Go.Operand.tmp 174), type := 3, pos := "law.go:125", after := #[{ on := 21, ground := Go.Ground.data }, { on := 14, ground := Go.Ground.guard }], guard := some (14, false) }) (v := ?_) rfl (by kernel_rfl) (by kernel_rfl) (by kernel_rfl) (fun _ _ _ h => h) (Or.inl ⟨by rfl, ?_⟩) (by assumption) ?_
                rotate_left
                · (intro w0 hSw; (try dsimp only at hSw); go_split_ands; go_simp; with_reducible rfl)
                try simp only [Act.put, List.setIfInBounds_toArray, List.set_cons_zero, List.set_cons_succ]
                refine wpAnyH_ready (rs := [23]) (by kernel_rfl) (by simp) ?_
                refine AllReadyH.cons (o := { dst := some 176, op := Go.Op.call { callee := Go.Callee.value (Go.Operand.func 67), args := #[Go.Operand.tmp 168, Go.Operand.tmp 169, Go.Operand.tmp 170, Go.Operand.tmp 175], argTypes := #[83, 109, 23, 3] }, type := 4, pos := "law.go:125", after := #[{ on := 15, ground := Go.Ground.data }, { on := 16, ground := Go.Ground.data }, { on := 17, ground := Go.Ground.data }, { on := 22, ground := Go.Ground.data }, { on := 14, ground := Go.Ground.chain }, { on := 14, ground := Go.Ground.guard }], guard := some (14, false) }) rfl (fun K hK => ?_) AllReadyH.nil
                go_simp
                go_at_call 67
                refine (looks_c HBO1.out oth x.N ho HAC.out.hN).mono ?_
                rintro e w2' ⟨rfl, hb1⟩
                have HB2 := Lib.hid (HB1.out.trans (hb1.mono HB1.out.size))
                have HBO2 := Lib.hid (HBO1.out.past hb1)
                clear hb1
                refine hK.out _ _ ⟨(HCX.out _ HB2.out).1, (HCX.out _ HB2.out).2.2.2⟩ (fun hHeld => ?_)
                clear hK K
                try simp only [Act.put, List.setIfInBounds_toArray, List.set_cons_zero, List.set_cons_succ]
                refine wpAnyH_take (i := 24) (oi := { dst := some 177, op := Go.Op.unOp Go.UnOp.not 4 (Go.Operand.tmp 176), type := 4, pos := "law.go:125", after := #[{ on := 23, ground := Go.Ground.data }, { on := 14, ground := Go.Ground.guard }], guard := some (14, false) }) (v := ?_) rfl (by kernel_rfl) (by kernel_rfl) (by kernel_rfl) (fun _ _ _ h => h) (Or.inl ⟨by rfl, ?_⟩) (by assumption) ?_
                rotate_left
                · (intro w0 hSw; (try dsimp only at hSw); go_split_ands; go_simp; with_reducible rfl)
                try simp only [Act.put, List.setIfInBounds_toArray, List.set_cons_zero, List.set_cons_succ]
                refine wpAnyH_take (i := 25) (oi := { dst := some 178, op := Go.Op.pick (Go.Operand.tmp 167) (Go.Operand.const (Go.Value.bool true)) (Go.Operand.tmp 177), type := 4, pos := "law.go:125", after := #[{ on := 14, ground := Go.Ground.data }, { on := 24, ground := Go.Ground.data }], guard := none }) (v := ?_) rfl (by kernel_rfl) (by kernel_rfl) (by kernel_rfl) (fun _ _ _ h => h) (Or.inl ⟨by rfl, ?_⟩) (by assumption) ?_
                rotate_left
                · (intro w0 hSw; (try dsimp only at hSw); go_split_ands; go_simp; with_reducible rfl)
                try simp only [Act.put, List.setIfInBounds_toArray, List.set_cons_zero, List.set_cons_succ]
                refine wpAnyH_done (by kernel_rfl) ?_ _
                clear hHeld
                go_wp2
                exact ⟨⟨i + 1, p1', M', F1', by omega, by go_num, rfl, HBO2, HFc, HB2⟩, by simp [intOf]; omega⟩
            · have hin : i = m := by omega
              rw [hin]
              clear hlt hi hin i
              go_wp2
              go_ret
              exact ⟨rfl, HB.out⟩
    · go_wp2_with (go_at_call 60; refine H3.out.mono ?_; rintro e w4 ⟨hb4, rfl⟩; have HB4 := Lib.hid (HB3.out.trans (hb4.mono HB3.out.size)); clear hb4)
      go_ret
      exact ⟨rfl, HB4.out⟩
end Go.Proofs.Ytnbpgoacooddjaa.Mm
