import Derived.Deep.CutBlock
import Derived.Deep.DeepCutAuto
import Derived.Deep.CutRange
import Derived.Test.YtnbpgoacooddjaaPm
namespace Go.Proofs.Ytnbpgoacooddjaa.Lab
open Go.ChangeShapes Go.WideShapes Go.ChangeAt Go.RowKit Go.Maps Go.Deep
open Go.Proofs.Ytnbpgoacooddjaa.En
set_option linter.unusedVariables false
attribute [local go_sem] rowAt_drew rowAt_drewN
theorem own_keep {w w' : World} {B n size : Nat} {e : TypeId} {v : Value} {xs : List Value} (h : w.ownsRow B e size v n xs) (hb : Below w.heap.size w w') : w'.ownsRow B e size v n xs :=
  ownsRow_kept h fun g hg => hb.block g (by
    obtain ⟨cur, hc⟩ := own_heap h hg
    exact (Array.getElem?_eq_some_iff.1 hc).1)
theorem seven_of {W : World} {x0 : In} {n lb lo : Nat} {F : Nat → In} (h : SrcI W (some ⟨lb, lo, none⟩) n F) (hn : 0 < n) (hx : F 0 = x0) : W.cell? ⟨lb, lo, none⟩ = some (.int .i64 x0.op) ∧ W.cell? ⟨lb, lo + 1, none⟩ = some (.int .i64 x0.d) ∧ W.cell? ⟨lb, lo + 2, none⟩ = some (.int .i64 x0.n) ∧ W.cell? ⟨lb, lo + 3, none⟩ = some (.int .i64 x0.m) ∧ W.cell? ⟨lb, lo + 4, none⟩ = some (.int .i64 x0.a) ∧ W.cell? ⟨lb, lo + 5, none⟩ = some (.int .i64 x0.c) ∧ W.cell? ⟨lb, lo + 6, none⟩ = some (.int .i64 x0.i) := by
  rcases h with h | ⟨b, off, he, _, hc⟩
  · omega
  · injection he with he
    injection he with e1 e2
    subst e1 e2
    have := hc 0 hn
    rw [hx] at this
    simp only [Nat.zero_mul, Nat.add_zero] at this
    exact this
/-- An act's cells. -/
def acR (x : Ac) : Array Value := #[.int .i64 x.op, .slice x.la x.ln x.lc, .string x.nm, .int .i64 x.reg, .int .u64 x.v, .int .i64 x.N]
set_option maxRecDepth 100000 in
set_option maxHeartbeats 80000000 in
theorem plays_walk (at0 : Int) (A : Option Addr) (n cap : Nat) (X : Nat → Ac) (nm : ByteArray) (hnm : nm.size ≤ maxLen) (w : World) (hn : n ≤ 9223372036854775807) (HS : Hid (SrcA w A n X)) :
    Calls Try.prog 9 #[.int .u64 at0, .slice A n cap, .string nm] w fun e w' => e = .returned (.bool true) ∧ Below w.heap.size w w' := by
  have HKN := Lib.hid (known19 w)
  go_enter Try.func9, Try.ntmps9
  go_upto_region 3 with (go_at_call 19; refine HKN.out.mono ?_; rintro e w1 ⟨rfl, hb1⟩; have HB1 := Lib.hid hb1; clear hb1)
  have HFW := Lib.hid (few_c A n cap X w1 hn (Lib.hid (HS.out.past HB1.out)))
  go_upto_region 4 with (go_at_call 33; refine HFW.out.mono ?_; rintro e w2 ⟨⟨fb, rfl, hfb⟩, hb2⟩; have HB2 := Lib.hid (HB1.out.trans (hb2.mono HB1.out.size)); have HFB := Lib.hid hfb; clear hfb hb2; cases fb)
  · go_wp2
    go_ret
    exact ⟨rfl, HB2.out⟩
  · refine (new_c at0 w2).mono ?_
    rintro e w3 ⟨rfl, hc3, hb3⟩
    have HBN := bo_new hc3 hb3
    obtain ⟨hn300, hfew⟩ := HFB.out (by first | rfl | trivial)
    have HFEW := Lib.hid hfew
    obtain ⟨p, hp⟩ : ∃ p, w2.heap.size + 1 = p := ⟨_, rfl⟩
    rw [hp] at HBN
    try rw [hp]
    have HS2 := Lib.hid (HS.out.past HB2.out)
    obtain ⟨B, hB⟩ : ∃ B, w2.heap.size = B := ⟨_, rfl⟩
    have HBB := Lib.hid hB
    rw [hB] at HBN
    obtain ⟨q, hq⟩ : ∃ q, w3.heap.size = q := ⟨_, rfl⟩
    have HBO : Hid (∃ N1 N2, Bo B N1 N2 w2 (w3.alloc (.cells (cellsR at0 (.slice none 0 0) (.slice none 0 0) (.slice none 0 0) 0) 74)) p w3.heap.size (Lb.new at0) (Lb.new at0)) := Lib.hid ⟨_, _, HBN⟩
    clear hc3 hb3 HBN hfew hp hq HKN HFW HFB q
    go_upto_region 9 with (fail)
    obtain ⟨q, hq⟩ : ∃ q, w3.heap.size = q := ⟨_, rfl⟩
    rw [hq] at HBO
    rw [hq]
    obtain ⟨W0, hW0⟩ : ∃ W0, w3.alloc (.cells (cellsR at0 (.slice none 0 0) (.slice none 0 0) (.slice none 0 0) 0) 74) = W0 := ⟨_, rfl⟩
    rw [hW0] at HBO
    have hW0' : w3.alloc (.cells #[.int .u64 at0, .slice none 0 0, .slice none 0 0, .slice none 0 0, .int .i64 0] 74) = W0 := hW0
    rw [hW0']
    clear hW0 hW0' hq
    go_wp2
    go_loopw [9] (fun s9 W => ∃ (i : Nat) (S : Lb), i ≤ n ∧ s9 = .int .i64 i ∧ Hid (∃ N1 N2, Bo B N1 N2 w2 W p q S S) ∧ Hid (SI S i)) (fun s9 _ => n - (intOf s9).toNat)
    case atStart => exact ⟨0, Lb.new at0, Nat.zero_le _, rfl, HBO, Lib.hid (si_new at0)⟩
    case round =>
      obtain ⟨i, S, hi, rfl, HBi, HSi⟩ := hrel
      obtain ⟨N1', N2', hbo⟩ := HBi.out
      have HBF := Lib.hid hbo.fit
      clear hbo HBi
      by_cases hlt : i < n
      · have hsx : SrcA wr A n X := HS2.out.past (by rw [HBB.out]; exact HBF.out.bl)
        obtain ⟨b, off, rfl, hb, hc⟩ : ∃ b off, A = some ⟨b, off, none⟩ ∧ b < wr.heap.size ∧ ∀ k, k < n → AcOk wr b (off + k * 6) (X k) := by
          rcases hsx with h | h
          · omega
          · exact h
        have hac := hc i hlt
        have hsx2 : AcOk w2 b (off + i * 6) (X i) := by
          rcases HS2.out with h | ⟨b', off', he, _, hc'⟩
          · omega
          · injection he with he
            injection he with he1 he2
            subst he1 he2
            exact hc' i hlt
        obtain ⟨x, hx⟩ : ∃ x, X i = x := ⟨_, rfl⟩
        rw [hx] at hac hsx2
        have HXI := Lib.hid hx
        have HAC := Lib.hid hac
        have HA2 := Lib.hid hsx2
        have c0 := hac.c0
        have c1 := hac.c1
        have c2 := hac.c2
        have c3 := hac.c3
        have c4 := hac.c4
        have c5 := hac.c5
        clear hc hx hac hsx hsx2
        have HW5 : Hid (rowAt (wr.alloc (.cells (acR x) 76)) wr.heap.size = some (acR x)) := Lib.hid (rowAt_new _ _ _)
        have HB5 : Hid (Bo B wr.heap.size wr.heap.size w2 (wr.alloc (.cells (acR x) 76)) p q S S) := Lib.hid (HBF.out.past ((Below.refl _ _).alloc (Nat.le_refl _) _))
        go_upto_block 2 with (fail)
        obtain ⟨bx, hbx⟩ : ∃ bx, wr.heap.size = bx := ⟨_, rfl⟩
        have HSB : Hid (B ≤ bx) := Lib.hid (by rw [← hbx]; exact HBF.out.sz)
        have hs5 : (wr.alloc (.cells (acR x) 76)).heap.size = bx + 1 := by simp [hbx]
        have HL5 : Hid (Below B w2 (wr.alloc (.cells (acR x) 76))) := Lib.hid HB5.out.bl
        obtain ⟨W5, hW5⟩ : ∃ W5, wr.alloc (.cells (acR x) 76) = W5 := ⟨_, rfl⟩
        have hW5' : wr.alloc (.cells #[.int .i64 x.op, .slice x.la x.ln x.lc, .string x.nm, .int .i64 x.reg, .int .u64 x.v, .int .i64 x.N] 76) = W5 := hW5
        rw [hW5, hbx] at HW5 HB5
        rw [hW5] at hs5 HL5
        rw [hW5', hbx]
        have HSR : Hid (SrcI W5 x.la x.ln x.lf) := Lib.hid (HA2.out.src.past (by rw [HBB.out]; exact HL5.out))
        have HLA : Hid (∀ N : Nat, 0 < x.ln → ∀ b off, x.la = some ⟨b, off, none⟩ → b < B ∨ N ≤ b) := Lib.hid (fun N hl b' off' he => by
          rcases HA2.out.src with h | ⟨b2, off2, he2, hb2, _⟩
          · omega
          · rw [he] at he2
            injection he2 with he2
            injection he2 with he2
            subst he2
            have := HBB.out
            omega)
        have hcn : S.cnt ≤ 300 := by have := HSi.out.cn; omega
        have hjn : S.jn ≤ 300 := by have := HSi.out.jn; omega
        clear hW5 hW5' c0 c1 c2 c3 c4 c5 HA2 hbx
        generalize (Value.agg #[.int .i64 x.op, .slice x.la x.ln x.lc, .string x.nm, .int .i64 x.reg, .int .u64 x.v, .int .i64 x.N]) = AG
        go_cut [11, 12] from 50 to 132 (fun s11 s12 wx => ∃ (S' : Lb), Hid (∃ N1 N2, Bo B N1 N2 w2 wx p q S' S') ∧ Hid (SI S' (i + 1)) ∧ Hid (rowAt wx bx = some (acR x)))
        case first =>
          have e1 : W5.cell? ⟨bx, 1, none⟩ = some (.slice x.la x.ln x.lc) := rowAt_cell HW5.out 1
          have e2 : W5.cell? ⟨bx, 2, none⟩ = some (.string x.nm) := rowAt_cell HW5.out 2
          have e3 : W5.cell? ⟨bx, 3, none⟩ = some (.int .i64 x.reg) := rowAt_cell HW5.out 3
          have e4 : W5.cell? ⟨bx, 4, none⟩ = some (.int .u64 x.v) := rowAt_cell HW5.out 4
          have e5 : W5.cell? ⟨bx, 5, none⟩ = some (.int .i64 x.N) := rowAt_cell HW5.out 5
          by_cases h1 : x.op = 1
          · have q1 : (x.op == 1) = true := by simpa using h1
            clear h1
            go_wp2_with (first | (go_at_call 29; refine (put_bo HB5.out x.la x.ln x.lc x.lf HAC.out.lm HAC.out.lc (HLA.out _) HSR).mono ?_; rintro e w6 ⟨rfl, ⟨S1, hps, hbo⟩, hkb⟩; have HSR6 := Lib.hid (hkb.src HSR.out (HLA.out _)); have HBo6 := Lib.hid hbo; have HPS := Lib.hid hps; have HKB := Lib.hid hkb; have HW6 := Lib.hid (hkb.rowAt HW5.out (.inr (Nat.le_refl _))); clear hbo hps hkb; have e1 : w6.cell? ⟨bx, 1, none⟩ = some (.slice x.la x.ln x.lc) := rowAt_cell HW6.out 1; have e2 : w6.cell? ⟨bx, 2, none⟩ = some (.string x.nm) := rowAt_cell HW6.out 2; have e3 : w6.cell? ⟨bx, 3, none⟩ = some (.int .i64 x.reg) := rowAt_cell HW6.out 3; have e4 : w6.cell? ⟨bx, 4, none⟩ = some (.int .u64 x.v) := rowAt_cell HW6.out 4) | (go_at_call 34; refine (rput_bo HBo6.out x.la x.ln x.lc x.lf HAC.out.lm HAC.out.lc (HLA.out _) HSR6).mono ?_; rintro e w7 ⟨rfl, R1, hpr, hbo, hkb⟩; have hrs := HPS.out.uniq hpr; subst hrs; have HBo7 := Lib.hid hbo; have HW7 := Lib.hid (hkb.rowAt HW6.out (.inr (Nat.le_refl _))); clear hbo hkb hpr))
            go_meet
            case rel => exact ⟨_, Lib.hid ⟨_, _, HBo7.out⟩, Lib.hid (HSi.out.put HPS.out), HW7⟩
          · have q1 : (x.op == 1) = false := by simpa using h1
            clear h1
            by_cases h2 : x.op = 2
            · have q2 : (x.op == 2) = true := by simpa using h2
              clear h2
              go_wp2_with (first | (go_at_call 26; refine (label_bo HB5.out x.nm HAC.out.sz (by omega)).mono ?_; rintro e w6 ⟨rfl, S1, hps, hbo, hkb⟩; have HBo6 := Lib.hid hbo; have HPS := Lib.hid hps; have HKB := Lib.hid hkb; have HW6 := Lib.hid (hkb.rowAt HW5.out (.inr (Nat.le_refl _))); clear hbo hps hkb; have e1 : w6.cell? ⟨bx, 1, none⟩ = some (.slice x.la x.ln x.lc) := rowAt_cell HW6.out 1; have e2 : w6.cell? ⟨bx, 2, none⟩ = some (.string x.nm) := rowAt_cell HW6.out 2; have e3 : w6.cell? ⟨bx, 3, none⟩ = some (.int .i64 x.reg) := rowAt_cell HW6.out 3; have e4 : w6.cell? ⟨bx, 4, none⟩ = some (.int .u64 x.v) := rowAt_cell HW6.out 4) | (go_at_call 35; refine (rlabel_bo HBo6.out x.nm HAC.out.sz (by omega)).mono ?_; rintro e w7 ⟨rfl, R1, hpr, hbo, hkb⟩; have hrs := HPS.out.uniq hpr; subst hrs; have HBo7 := Lib.hid hbo; have HW7 := Lib.hid (hkb.rowAt HW6.out (.inr (Nat.le_refl _))); clear hbo hkb hpr))
              go_meet
              case rel => exact ⟨_, Lib.hid ⟨_, _, HBo7.out⟩, Lib.hid (HSi.out.lab HPS.out), HW7⟩
            · have q2 : (x.op == 2) = false := by simpa using h2
              clear h2
              by_cases h3 : x.op = 3
              · have q3 : (x.op == 3) = true := by simpa using h3
                clear h3
                by_cases hln : 0 < x.ln
                · have el : decide ((0 : Int) < (x.ln : Int)) = true := decide_eq_true (by omega)
                  obtain ⟨lb, lo, hle⟩ : ∃ lb lo, x.la = some ⟨lb, lo, none⟩ := by
                    rcases HSR.out with h | ⟨lb, lo, h, _⟩
                    · omega
                    · exact ⟨lb, lo, h⟩
                  have HLE := Lib.hid hle
                  rw [hle] at e1
                  obtain ⟨x0, hx0⟩ : ∃ x0, x.lf 0 = x0 := ⟨_, rfl⟩
                  have HX0 := Lib.hid hx0
                  clear hle hx0
                  go_upto_region 22 with (fail)
                  have HW5d : Hid (rowAt W5.drew bx = some (acR x)) := Lib.hid HW5.out
                  have HB5d : Hid (Bo B bx bx w2 W5.drew p q S S) := Lib.hid (HB5.out.past (Below.refl _ _).drew)
                  have HSRd : Hid (SrcI W5.drew x.la x.ln x.lf) := Lib.hid (HSR.out.past (Below.refl _ _).drew)
                  have s5 : W5.drew.cell? ⟨bx, 1, none⟩ = some (.slice (some ⟨lb, lo, none⟩) x.ln x.lc) ∧ W5.drew.cell? ⟨bx, 2, none⟩ = some (.string x.nm) ∧ W5.drew.cell? ⟨lb, lo, none⟩ = some (.int .i64 x0.op) ∧ W5.drew.cell? ⟨lb, lo + 1, none⟩ = some (.int .i64 x0.d) ∧ W5.drew.cell? ⟨lb, lo + 2, none⟩ = some (.int .i64 x0.n) ∧ W5.drew.cell? ⟨lb, lo + 3, none⟩ = some (.int .i64 x0.m) ∧ W5.drew.cell? ⟨lb, lo + 4, none⟩ = some (.int .i64 x0.a) ∧ W5.drew.cell? ⟨lb, lo + 5, none⟩ = some (.int .i64 x0.c) ∧ W5.drew.cell? ⟨lb, lo + 6, none⟩ = some (.int .i64 x0.i) := ⟨rowAt_cell HW5d.out 1 |>.trans (by rw [← HLE.out]; rfl), rowAt_cell HW5d.out 2, seven_of (HLE.out ▸ HSRd.out) hln HX0.out⟩
                  refine wp_region_held_drew (S := fun w' => w'.cell? ⟨bx, 1, none⟩ = some (.slice (some ⟨lb, lo, none⟩) x.ln x.lc) ∧ w'.cell? ⟨bx, 2, none⟩ = some (.string x.nm) ∧ w'.cell? ⟨lb, lo, none⟩ = some (.int .i64 x0.op) ∧ w'.cell? ⟨lb, lo + 1, none⟩ = some (.int .i64 x0.d) ∧ w'.cell? ⟨lb, lo + 2, none⟩ = some (.int .i64 x0.n) ∧ w'.cell? ⟨lb, lo + 3, none⟩ = some (.int .i64 x0.m) ∧ w'.cell? ⟨lb, lo + 4, none⟩ = some (.int .i64 x0.a) ∧ w'.cell? ⟨lb, lo + 5, none⟩ = some (.int .i64 x0.c) ∧ w'.cell? ⟨lb, lo + 6, none⟩ = some (.int .i64 x0.i)) (by kernel_rfl) s5 (fun hHeld => ?_)
                  refine wpAnyH_take (i := 0) (oi := { dst := some 76, op := Op.move (Operand.tmp 7), type := 43, pos := "law.go:79", after := #[], guard := none }) (v := ?_) rfl (by kernel_rfl) (by kernel_rfl) (by kernel_rfl) (fun _ _ _ h => h) (Or.inl ⟨by rfl, ?_⟩) (by assumption) ?_
                  rotate_left
                  · (intro w0 hSw; (try dsimp only at hSw); go_split_ands; go_simp; with_reducible rfl)
                  try simp only [Act.put, List.setIfInBounds_toArray, List.set_cons_zero, List.set_cons_succ]
                  refine wpAnyH_take (i := 1) (oi := { dst := some 77, op := Op.fieldAddr 76 (Operand.tmp 10) 1, type := 0, pos := "law.go:79", after := #[], guard := none }) (v := ?_) rfl (by kernel_rfl) (by kernel_rfl) (by kernel_rfl) (fun _ _ _ h => h) (Or.inl ⟨by rfl, ?_⟩) (by assumption) ?_
                  rotate_left
                  · (intro w0 hSw; (try dsimp only at hSw); go_split_ands; go_simp; with_reducible rfl)
                  try simp only [Act.put, List.setIfInBounds_toArray, List.set_cons_zero, List.set_cons_succ]
                  refine wpAnyH_take (i := 2) (oi := { dst := some 78, op := Op.load 63 (Operand.tmp 77), type := 63, pos := "law.go:79", after := #[{ on := 1, ground := Ground.data }], guard := none }) (v := ?_) rfl (by kernel_rfl) (by kernel_rfl) (by kernel_rfl) (fun _ _ _ h => h) (Or.inl ⟨by rfl, ?_⟩) (by assumption) ?_
                  rotate_left
                  · (intro w0 hSw; (try dsimp only at hSw); go_split_ands; go_simp; with_reducible rfl)
                  try simp only [Act.put, List.setIfInBounds_toArray, List.set_cons_zero, List.set_cons_succ]
                  refine wpAnyH_take (i := 3) (oi := { dst := some 79, op := Op.indexAddr 63 (Operand.tmp 78) (Operand.const (Value.int Go.IntKind.i64 0)), type := 0, pos := "law.go:79", after := #[{ on := 2, ground := Ground.data }], guard := none }) (v := ?_) rfl (by kernel_rfl) (by kernel_rfl) (by kernel_rfl) (fun _ _ _ h => h) (Or.inl ⟨by rfl, ?_⟩) (by assumption) ?_
                  rotate_left
                  · (intro w0 hSw; (try dsimp only at hSw); go_split_ands; go_simp; with_reducible rfl)
                  try simp only [Act.put, List.setIfInBounds_toArray, List.set_cons_zero, List.set_cons_succ]
                  refine wpAnyH_take (i := 4) (oi := { dst := some 80, op := Op.load 29 (Operand.tmp 79), type := 29, pos := "law.go:79", after := #[{ on := 3, ground := Ground.data }], guard := none }) (v := ?_) rfl (by kernel_rfl) (by kernel_rfl) (by kernel_rfl) (fun _ _ _ h => h) (Or.inl ⟨by rfl, ?_⟩) (by assumption) ?_
                  rotate_left
                  · (intro w0 hSw; (try dsimp only at hSw); go_split_ands; go_simp; with_reducible rfl)
                  try simp only [Act.put, List.setIfInBounds_toArray, List.set_cons_zero, List.set_cons_succ]
                  refine wpAnyH_take (i := 5) (oi := { dst := some 81, op := Op.fieldAddr 76 (Operand.tmp 10) 2, type := 0, pos := "law.go:79", after := #[], guard := none }) (v := ?_) rfl (by kernel_rfl) (by kernel_rfl) (by kernel_rfl) (fun _ _ _ h => h) (Or.inl ⟨by rfl, ?_⟩) (by assumption) ?_
                  rotate_left
                  · (intro w0 hSw; (try dsimp only at hSw); go_split_ands; go_simp; with_reducible rfl)
                  try simp only [Act.put, List.setIfInBounds_toArray, List.set_cons_zero, List.set_cons_succ]
                  refine wpAnyH_take (i := 6) (oi := { dst := some 82, op := Op.load 9 (Operand.tmp 81), type := 9, pos := "law.go:79", after := #[{ on := 5, ground := Ground.data }], guard := none }) (v := ?_) rfl (by kernel_rfl) (by kernel_rfl) (by kernel_rfl) (fun _ _ _ h => h) (Or.inl ⟨by rfl, ?_⟩) (by assumption) ?_
                  rotate_left
                  · (intro w0 hSw; (try dsimp only at hSw); go_split_ands; go_simp; with_reducible rfl)
                  try simp only [Act.put, List.setIfInBounds_toArray, List.set_cons_zero, List.set_cons_succ]
                  refine wpAnyH_ready (rs := [7]) (by kernel_rfl) (by simp) ?_
                  refine AllReadyH.cons (o := { dst := some 83, op := Op.call { callee := Callee.value (Operand.func 28), args := #[Operand.tmp 76, Operand.tmp 80, Operand.tmp 82], argTypes := #[43, 29, 9] }, type := 0, pos := "law.go:79", after := #[{ on := 0, ground := Ground.data }, { on := 4, ground := Ground.data }, { on := 6, ground := Ground.data }], guard := none }) rfl (fun K hK => ?_) AllReadyH.nil
                  go_simp
                  go_at_call 28
                  refine (jump_bo HB5d.out x0 x.nm (by omega)).mono ?_
                  rintro e w6 ⟨rfl, S1, hps, hbo, hkb⟩
                  have HBo6 := Lib.hid hbo
                  have HPS := Lib.hid hps
                  have HW6 := Lib.hid (hkb.rowAt HW5d.out (.inr (Nat.le_refl _)))
                  have HSR6 := Lib.hid (hkb.src HSRd.out (HLA.out _))
                  clear hbo hps hkb
                  have s6 : w6.cell? ⟨bx, 1, none⟩ = some (.slice (some ⟨lb, lo, none⟩) x.ln x.lc) ∧ w6.cell? ⟨bx, 2, none⟩ = some (.string x.nm) ∧ w6.cell? ⟨lb, lo, none⟩ = some (.int .i64 x0.op) ∧ w6.cell? ⟨lb, lo + 1, none⟩ = some (.int .i64 x0.d) ∧ w6.cell? ⟨lb, lo + 2, none⟩ = some (.int .i64 x0.n) ∧ w6.cell? ⟨lb, lo + 3, none⟩ = some (.int .i64 x0.m) ∧ w6.cell? ⟨lb, lo + 4, none⟩ = some (.int .i64 x0.a) ∧ w6.cell? ⟨lb, lo + 5, none⟩ = some (.int .i64 x0.c) ∧ w6.cell? ⟨lb, lo + 6, none⟩ = some (.int .i64 x0.i) := ⟨rowAt_cell HW6.out 1 |>.trans (by rw [← HLE.out]; rfl), rowAt_cell HW6.out 2, seven_of (HLE.out ▸ HSR6.out) hln HX0.out⟩
                  refine hK.out _ _ s6 (fun hHeld => ?_)
                  clear hK K
                  try simp only [Act.put, List.setIfInBounds_toArray, List.set_cons_zero, List.set_cons_succ]
                  refine wpAnyH_done (by kernel_rfl) ?_ _
                  clear hHeld
                  go_upto_region 23 with (fail)
                  have HW6d : Hid (rowAt w6.drew bx = some (acR x)) := Lib.hid HW6.out
                  have HB6d : Hid (Bo B w6.heap.size bx w2 w6.drew p q S1 S) := Lib.hid (HBo6.out.past (Below.refl _ _).drew)
                  have HSR6d : Hid (SrcI w6.drew x.la x.ln x.lf) := Lib.hid (HSR6.out.past (Below.refl _ _).drew)
                  have s6d : w6.drew.cell? ⟨bx, 1, none⟩ = some (.slice (some ⟨lb, lo, none⟩) x.ln x.lc) ∧ w6.drew.cell? ⟨bx, 2, none⟩ = some (.string x.nm) ∧ w6.drew.cell? ⟨lb, lo, none⟩ = some (.int .i64 x0.op) ∧ w6.drew.cell? ⟨lb, lo + 1, none⟩ = some (.int .i64 x0.d) ∧ w6.drew.cell? ⟨lb, lo + 2, none⟩ = some (.int .i64 x0.n) ∧ w6.drew.cell? ⟨lb, lo + 3, none⟩ = some (.int .i64 x0.m) ∧ w6.drew.cell? ⟨lb, lo + 4, none⟩ = some (.int .i64 x0.a) ∧ w6.drew.cell? ⟨lb, lo + 5, none⟩ = some (.int .i64 x0.c) ∧ w6.drew.cell? ⟨lb, lo + 6, none⟩ = some (.int .i64 x0.i) := s6
                  refine wp_region_held_drew (S := fun w' => w'.cell? ⟨bx, 1, none⟩ = some (.slice (some ⟨lb, lo, none⟩) x.ln x.lc) ∧ w'.cell? ⟨bx, 2, none⟩ = some (.string x.nm) ∧ w'.cell? ⟨lb, lo, none⟩ = some (.int .i64 x0.op) ∧ w'.cell? ⟨lb, lo + 1, none⟩ = some (.int .i64 x0.d) ∧ w'.cell? ⟨lb, lo + 2, none⟩ = some (.int .i64 x0.n) ∧ w'.cell? ⟨lb, lo + 3, none⟩ = some (.int .i64 x0.m) ∧ w'.cell? ⟨lb, lo + 4, none⟩ = some (.int .i64 x0.a) ∧ w'.cell? ⟨lb, lo + 5, none⟩ = some (.int .i64 x0.c) ∧ w'.cell? ⟨lb, lo + 6, none⟩ = some (.int .i64 x0.i)) (by kernel_rfl) s6d (fun hHeld => ?_)
                  refine wpAnyH_take (i := 0) (oi := { dst := some 84, op := Op.move (Operand.tmp 8), type := 71, pos := "law.go:80", after := #[], guard := none }) (v := ?_) rfl (by kernel_rfl) (by kernel_rfl) (by kernel_rfl) (fun _ _ _ h => h) (Or.inl ⟨by rfl, ?_⟩) (by assumption) ?_
                  rotate_left
                  · (intro w0 hSw; (try dsimp only at hSw); go_split_ands; go_simp; with_reducible rfl)
                  try simp only [Act.put, List.setIfInBounds_toArray, List.set_cons_zero, List.set_cons_succ]
                  refine wpAnyH_take (i := 1) (oi := { dst := some 85, op := Op.fieldAddr 76 (Operand.tmp 10) 1, type := 0, pos := "law.go:80", after := #[], guard := none }) (v := ?_) rfl (by kernel_rfl) (by kernel_rfl) (by kernel_rfl) (fun _ _ _ h => h) (Or.inl ⟨by rfl, ?_⟩) (by assumption) ?_
                  rotate_left
                  · (intro w0 hSw; (try dsimp only at hSw); go_split_ands; go_simp; with_reducible rfl)
                  try simp only [Act.put, List.setIfInBounds_toArray, List.set_cons_zero, List.set_cons_succ]
                  refine wpAnyH_take (i := 2) (oi := { dst := some 86, op := Op.load 63 (Operand.tmp 85), type := 63, pos := "law.go:80", after := #[{ on := 1, ground := Ground.data }], guard := none }) (v := ?_) rfl (by kernel_rfl) (by kernel_rfl) (by kernel_rfl) (fun _ _ _ h => h) (Or.inl ⟨by rfl, ?_⟩) (by assumption) ?_
                  rotate_left
                  · (intro w0 hSw; (try dsimp only at hSw); go_split_ands; go_simp; with_reducible rfl)
                  try simp only [Act.put, List.setIfInBounds_toArray, List.set_cons_zero, List.set_cons_succ]
                  refine wpAnyH_take (i := 3) (oi := { dst := some 87, op := Op.indexAddr 63 (Operand.tmp 86) (Operand.const (Value.int Go.IntKind.i64 0)), type := 0, pos := "law.go:80", after := #[{ on := 2, ground := Ground.data }], guard := none }) (v := ?_) rfl (by kernel_rfl) (by kernel_rfl) (by kernel_rfl) (fun _ _ _ h => h) (Or.inl ⟨by rfl, ?_⟩) (by assumption) ?_
                  rotate_left
                  · (intro w0 hSw; (try dsimp only at hSw); go_split_ands; go_simp; with_reducible rfl)
                  try simp only [Act.put, List.setIfInBounds_toArray, List.set_cons_zero, List.set_cons_succ]
                  refine wpAnyH_take (i := 4) (oi := { dst := some 88, op := Op.load 29 (Operand.tmp 87), type := 29, pos := "law.go:80", after := #[{ on := 3, ground := Ground.data }], guard := none }) (v := ?_) rfl (by kernel_rfl) (by kernel_rfl) (by kernel_rfl) (fun _ _ _ h => h) (Or.inl ⟨by rfl, ?_⟩) (by assumption) ?_
                  rotate_left
                  · (intro w0 hSw; (try dsimp only at hSw); go_split_ands; go_simp; with_reducible rfl)
                  try simp only [Act.put, List.setIfInBounds_toArray, List.set_cons_zero, List.set_cons_succ]
                  refine wpAnyH_take (i := 5) (oi := { dst := some 89, op := Op.fieldAddr 76 (Operand.tmp 10) 2, type := 0, pos := "law.go:80", after := #[], guard := none }) (v := ?_) rfl (by kernel_rfl) (by kernel_rfl) (by kernel_rfl) (fun _ _ _ h => h) (Or.inl ⟨by rfl, ?_⟩) (by assumption) ?_
                  rotate_left
                  · (intro w0 hSw; (try dsimp only at hSw); go_split_ands; go_simp; with_reducible rfl)
                  try simp only [Act.put, List.setIfInBounds_toArray, List.set_cons_zero, List.set_cons_succ]
                  refine wpAnyH_take (i := 6) (oi := { dst := some 90, op := Op.load 9 (Operand.tmp 89), type := 9, pos := "law.go:80", after := #[{ on := 5, ground := Ground.data }], guard := none }) (v := ?_) rfl (by kernel_rfl) (by kernel_rfl) (by kernel_rfl) (fun _ _ _ h => h) (Or.inl ⟨by rfl, ?_⟩) (by assumption) ?_
                  rotate_left
                  · (intro w0 hSw; (try dsimp only at hSw); go_split_ands; go_simp; with_reducible rfl)
                  try simp only [Act.put, List.setIfInBounds_toArray, List.set_cons_zero, List.set_cons_succ]
                  refine wpAnyH_ready (rs := [7]) (by kernel_rfl) (by simp) ?_
                  refine AllReadyH.cons (o := { dst := some 91, op := Op.call { callee := Callee.value (Operand.func 36), args := #[Operand.tmp 84, Operand.tmp 88, Operand.tmp 90], argTypes := #[71, 29, 9] }, type := 0, pos := "law.go:80", after := #[{ on := 0, ground := Ground.data }, { on := 4, ground := Ground.data }, { on := 6, ground := Ground.data }], guard := none }) rfl (fun K hK => ?_) AllReadyH.nil
                  go_simp
                  go_at_call 36
                  refine (rjump_bo HB6d.out x0 x.nm (by omega)).mono ?_
                  rintro e w7 ⟨rfl, R1, hpr, hbo, hkb⟩
                  have hrs := HPS.out.uniq hpr
                  subst hrs
                  have HBo7 := Lib.hid hbo
                  have HW7 := Lib.hid (hkb.rowAt HW6d.out (.inr (Nat.le_refl _)))
                  have HSR7 := Lib.hid (hkb.src HSR6d.out (HLA.out _))
                  clear hbo hkb hpr
                  have s7 : w7.cell? ⟨bx, 1, none⟩ = some (.slice (some ⟨lb, lo, none⟩) x.ln x.lc) ∧ w7.cell? ⟨bx, 2, none⟩ = some (.string x.nm) ∧ w7.cell? ⟨lb, lo, none⟩ = some (.int .i64 x0.op) ∧ w7.cell? ⟨lb, lo + 1, none⟩ = some (.int .i64 x0.d) ∧ w7.cell? ⟨lb, lo + 2, none⟩ = some (.int .i64 x0.n) ∧ w7.cell? ⟨lb, lo + 3, none⟩ = some (.int .i64 x0.m) ∧ w7.cell? ⟨lb, lo + 4, none⟩ = some (.int .i64 x0.a) ∧ w7.cell? ⟨lb, lo + 5, none⟩ = some (.int .i64 x0.c) ∧ w7.cell? ⟨lb, lo + 6, none⟩ = some (.int .i64 x0.i) := ⟨rowAt_cell HW7.out 1 |>.trans (by rw [← HLE.out]; rfl), rowAt_cell HW7.out 2, seven_of (HLE.out ▸ HSR7.out) hln HX0.out⟩
                  refine hK.out _ _ s7 (fun hHeld => ?_)
                  clear hK K
                  try simp only [Act.put, List.setIfInBounds_toArray, List.set_cons_zero, List.set_cons_succ]
                  refine wpAnyH_done (by kernel_rfl) ?_ _
                  clear hHeld
                  go_wp2
                  go_meet
                  case rel => exact ⟨_, Lib.hid ⟨_, _, HBo7.out⟩, Lib.hid (HSi.out.jump HAC.out.sz HPS.out), HW7⟩
                · have el : decide ((0 : Int) < (x.ln : Int)) = false := decide_eq_false (by omega)
                  go_wp2
                  go_meet
                  case rel => exact ⟨S, Lib.hid ⟨_, _, HB5.out⟩, Lib.hid HSi.out.more, HW5⟩
              · have q3 : (x.op == 3) = false := by simpa using h3
                clear h3
                by_cases h4 : x.op = 4
                · have q4 : (x.op == 4) = true := by simpa using h4
                  clear h4
                  go_wp2_with (first | (go_at_call 21; refine (const_bo HB5.out x.reg x.v HAC.out.vr).mono ?_; rintro e w6 ⟨rfl, S1, hps, hbo, hkb⟩; have HBo6 := Lib.hid hbo; have HPS := Lib.hid hps; have HKB := Lib.hid hkb; have HW6 := Lib.hid (hkb.rowAt HW5.out (.inr (Nat.le_refl _))); clear hbo hps hkb; have e1 : w6.cell? ⟨bx, 1, none⟩ = some (.slice x.la x.ln x.lc) := rowAt_cell HW6.out 1; have e2 : w6.cell? ⟨bx, 2, none⟩ = some (.string x.nm) := rowAt_cell HW6.out 2; have e3 : w6.cell? ⟨bx, 3, none⟩ = some (.int .i64 x.reg) := rowAt_cell HW6.out 3; have e4 : w6.cell? ⟨bx, 4, none⟩ = some (.int .u64 x.v) := rowAt_cell HW6.out 4) | (go_at_call 37; refine (rconst_bo HBo6.out x.reg x.v HAC.out.vr).mono ?_; rintro e w7 ⟨rfl, R1, hpr, hbo, hkb⟩; have hrs := HPS.out.uniq hpr; subst hrs; have HBo7 := Lib.hid hbo; have HW7 := Lib.hid (hkb.rowAt HW6.out (.inr (Nat.le_refl _))); clear hbo hkb hpr))
                  go_meet
                  case rel => exact ⟨_, Lib.hid ⟨_, _, HBo7.out⟩, Lib.hid (HSi.out.con HAC.out.vr HPS.out), HW7⟩
                · have q4 : (x.op == 4) = false := by simpa using h4
                  clear h4
                  by_cases h5 : x.op = 5
                  · have q5 : (x.op == 5) = true := by simpa using h5
                    have HNN : Hid (x.N ≤ 40000) := Lib.hid (by have := HFEW.out i hlt (by rw [HXI.out]; exact h5); rw [HXI.out] at this; exact this)
                    clear h5
                    go_wp2
                    go_loopw [11, 12] (fun s11 s12 W => ∃ (k : Nat) (v11 : Value), k ≤ 40000 ∧ s12 = .int .i64 k ∧ s11 = v11 ∧ Hid (W.ownsRow W5.heap.size 29 7 v11 k (insL (fun _ => x.lf 0) k)) ∧ Hid (Below W5.heap.size W5 W)) (fun _ s12 _ => 40000 - (intOf s12).toNat)
                    case atStart => exact ⟨0, _, by omega, rfl, rfl, Lib.hid (World.ownsRow_nil _ _ _ _), Lib.hid (Below.refl _ _)⟩
                    case round =>
                      obtain ⟨k, v11, hk, rfl, rfl, HOk, HBk⟩ := hrel
                      obtain ⟨a11, c11, rfl, hc11⟩ := own_form HOk.out
                      have HWr : Hid (rowAt wr bx = some (acR x)) := Lib.hid (rowAt_below HW5.out HBk.out rfl)
                      have e1 : wr.cell? ⟨bx, 1, none⟩ = some (.slice x.la x.ln x.lc) := rowAt_cell HWr.out 1
                      have e5 : wr.cell? ⟨bx, 5, none⟩ = some (.int .i64 x.N) := rowAt_cell HWr.out 5
                      by_cases hkN : (k : Int) < x.N
                      · by_cases hln : 0 < x.ln
                        · obtain ⟨lb, lo, hle, hlb, hin⟩ : ∃ lb lo, x.la = some ⟨lb, lo, none⟩ ∧ lb < wr.heap.size ∧ InsAt wr lb lo x.ln x.lf := by
                            rcases HSR.out.past HBk.out with h | h
                            · omega
                            · exact h
                          obtain ⟨y0, y1, y2, y3, y4, y5, y6⟩ := hin 0 hln
                          obtain ⟨x0, hx0⟩ : ∃ x0, x.lf 0 = x0 := ⟨_, rfl⟩
                          rw [hx0] at y0 y1 y2 y3 y4 y5 y6 HOk
                          have HX0 := Lib.hid hx0
                          simp only [Nat.zero_mul, Nat.add_zero] at y0 y1 y2 y3 y4 y5 y6
                          rw [hle] at e1
                          have HS1 := Lib.hid (one_src x0 wr)
                          have HOW : Hid ((wr.alloc (.cells #[.int .i64 x0.op, .int .i64 x0.d, .int .i64 x0.n, .int .i64 x0.m, .int .i64 x0.a, .int .i64 x0.c, .int .i64 x0.i] 29)).ownsRow W5.heap.size 29 7 (.slice a11 k c11) k (insL (fun _ => x0) k)) := Lib.hid (own_alloc HOk.out _)
                          have hsz := HBk.out.size
                          have HLT : Hid (k < 40000) := Lib.hid (by have := HNN.out; omega)
                          clear hin hle hx0 hlb
                          go_wp2_with (at_builtin; refine wpl_append7 rfl _ _ rfl W5.heap.size _ k _ rfl HOW.out (some ⟨wr.heap.size, 0, none⟩) 1 1 (fun _ => x0) rfl HS1.out (by omega) (by simp; omega) ?_; intro v7 w7 ho7 hg7 hl7; have HO7 := Lib.hid ho7; have HG7 := Lib.hid hg7; clear ho7 hg7 hl7)
                          have HO8 : Hid (w7.ownsRow W5.heap.size 29 7 v7 (k + 1) (insL (fun _ => x.lf 0) (k + 1))) := Lib.hid (by have := HO7.out; rw [HX0.out]; exact this)
                          have HB8 : Hid (Below W5.heap.size W5 w7) := Lib.hid ((HBk.out.alloc hsz _).grown HG7.out (by simp; omega) (fun g hg => by have := (World.ownsRow.lt HOW.out g hg).1; omega))
                          have hlt' := HLT.out
                          exact ⟨⟨k + 1, _, by omega, by go_num, rfl, HO8, HB8⟩, by simp [intOf]; omega⟩
                        · have hl0 : x.ln = 0 := by omega
                          have HO11 := HOk
                          have HRS := Lib.hid (src_of_own HOk.out)
                          have HBr : Hid (Bo B bx bx w2 wr p q S S) := Lib.hid (HB5.out.past HBk.out)
                          have HLB : Hid (∀ N : Nat, N ≤ W5.heap.size → 0 < k → ∀ b off, a11 = some ⟨b, off, none⟩ → b < B ∨ N ≤ b) := Lib.hid (fun N hN _ b' off' he => by have := World.ownsRow.lt HO11.out b' (by rw [he]; rfl); omega)
                          have hbs : bx ≤ W5.heap.size := by omega
                          go_wp2_with (first | (go_at_call 29; refine (put_bo HBr.out a11 k c11 (fun _ => x.lf 0) (by omega) hc11 (HLB.out _ hbs) HRS).mono ?_; rintro e w6 ⟨rfl, ⟨S1, hps, hbo⟩, hkb⟩; have HSR6 := Lib.hid (hkb.src HRS.out (HLB.out _ hbs)); have HBo6 := Lib.hid hbo; have HPS := Lib.hid hps; have HW6 := Lib.hid (hkb.rowAt HWr.out (.inr (Nat.le_refl _))); clear hbo hps hkb) | (go_at_call 34; refine (rput_bo HBo6.out a11 k c11 (fun _ => x.lf 0) (by omega) hc11 (HLB.out _ hbs) HSR6).mono ?_; rintro e w7 ⟨rfl, R1, hpr, hbo, hkb⟩; have hrs := HPS.out.uniq hpr; subst hrs; have HBo7 := Lib.hid hbo; have HW7 := Lib.hid (hkb.rowAt HW6.out (.inr (Nat.le_refl _))); clear hbo hkb hpr))
                          go_meet
                          case rel => exact ⟨_, Lib.hid ⟨_, _, HBo7.out⟩, Lib.hid (HSi.out.put HPS.out), HW7⟩
                      · have ek : decide ((k : Int) < x.N) = false := decide_eq_false hkN
                        have HO11 := HOk
                        have HRS := Lib.hid (src_of_own HOk.out)
                        have HBr : Hid (Bo B bx bx w2 wr p q S S) := Lib.hid (HB5.out.past HBk.out)
                        have HLB : Hid (∀ N : Nat, N ≤ W5.heap.size → 0 < k → ∀ b off, a11 = some ⟨b, off, none⟩ → b < B ∨ N ≤ b) := Lib.hid (fun N hN _ b' off' he => by have := World.ownsRow.lt HO11.out b' (by rw [he]; rfl); omega)
                        have hbs : bx ≤ W5.heap.size := by omega
                        go_wp2_with (first | (go_at_call 29; refine (put_bo HBr.out a11 k c11 (fun _ => x.lf 0) (by omega) hc11 (HLB.out _ hbs) HRS).mono ?_; rintro e w6 ⟨rfl, ⟨S1, hps, hbo⟩, hkb⟩; have HSR6 := Lib.hid (hkb.src HRS.out (HLB.out _ hbs)); have HBo6 := Lib.hid hbo; have HPS := Lib.hid hps; have HW6 := Lib.hid (hkb.rowAt HWr.out (.inr (Nat.le_refl _))); clear hbo hps hkb) | (go_at_call 34; refine (rput_bo HBo6.out a11 k c11 (fun _ => x.lf 0) (by omega) hc11 (HLB.out _ hbs) HSR6).mono ?_; rintro e w7 ⟨rfl, R1, hpr, hbo, hkb⟩; have hrs := HPS.out.uniq hpr; subst hrs; have HBo7 := Lib.hid hbo; have HW7 := Lib.hid (hkb.rowAt HW6.out (.inr (Nat.le_refl _))); clear hbo hkb hpr))
                        go_meet
                        case rel => exact ⟨_, Lib.hid ⟨_, _, HBo7.out⟩, Lib.hid (HSi.out.put HPS.out), HW7⟩
                  · have q5 : (x.op == 5) = false := by simpa using h5
                    clear h5
                    go_wp2
                    go_meet
                    case rel => exact ⟨S, Lib.hid ⟨_, _, HB5.out⟩, Lib.hid HSi.out.more, HW5⟩
        case rest =>
          obtain ⟨S', HBc, HSc, HWc⟩ := hcut
          obtain ⟨M1, M2, hbo⟩ := HBc.out
          go_upto_region 35 with (fail)
          have HBd : Hid (Bo B M1 M2 w2 wc.drew p q S' S') := Lib.hid (hbo.past (Below.refl _ _).drew)
          have HWd : Hid (rowAt wc.drew bx = some (acR x)) := Lib.hid HWc.out
          obtain ⟨⟨aq, cq, cc1⟩, cc4⟩ := HBd.out.cells
          have hql : q < wc.drew.heap.size := World.block_lt_of_cell? _ ⟨q, 1, none⟩ cc1
          have s5 : wc.drew.cell? ⟨q, 1, none⟩ = some (.slice aq S'.n cq) ∧ wc.drew.cell? ⟨q, 4, none⟩ = some (.int .i64 S'.err) := ⟨cc1, cc4⟩
          clear hbo HBc cc1 cc4 HWc
          refine wp_region_held_drew (S := fun w' => w'.cell? ⟨q, 1, none⟩ = some (.slice aq S'.n cq) ∧ w'.cell? ⟨q, 4, none⟩ = some (.int .i64 S'.err)) (by kernel_rfl) s5 (fun hHeld => ?_)
          generalize wc.drew = V at HBd HWd hql s5 hHeld ⊢
          refine wpAnyH_take (i := 0) (oi := { dst := some 133, op := Op.move (Operand.tmp 7), type := 43, pos := "law.go:93", after := #[], guard := none }) (v := ?_) rfl (by kernel_rfl) (by kernel_rfl) (by kernel_rfl) (fun _ _ _ h => h) (Or.inl ⟨by rfl, ?_⟩) (by assumption) ?_
          rotate_left
          · (intro w0 hSw; (try dsimp only at hSw); go_split_ands; go_simp; with_reducible rfl)
          try simp only [Act.put, List.setIfInBounds_toArray, List.set_cons_zero, List.set_cons_succ]
          refine wpAnyH_take (i := 2) (oi := { dst := some 135, op := Op.move (Operand.tmp 8), type := 71, pos := "law.go:93", after := #[], guard := none }) (v := ?_) rfl (by kernel_rfl) (by kernel_rfl) (by kernel_rfl) (fun _ _ _ h => h) (Or.inl ⟨by rfl, ?_⟩) (by assumption) ?_
          rotate_left
          · (intro w0 hSw; (try dsimp only at hSw); go_split_ands; go_simp; with_reducible rfl)
          try simp only [Act.put, List.setIfInBounds_toArray, List.set_cons_zero, List.set_cons_succ]
          refine wpAnyH_ready (rs := [1]) (by kernel_rfl) (by simp) ?_
          refine AllReadyH.cons (o := { dst := some 134, op := Op.call { callee := Callee.value (Operand.func 27), args := #[Operand.tmp 133], argTypes := #[43] }, type := 23, pos := "law.go:93", after := #[{ on := 0, ground := Ground.data }], guard := none }) rfl (fun K hK => ?_) AllReadyH.nil
          go_simp
          go_at_call 27
          refine (here_bo HBd.out).mono ?_
          rintro e u1 ⟨rfl, rfl⟩
          refine hK.out _ _ s5 (fun hHeld => ?_)
          clear hK K
          try simp only [Act.put, List.setIfInBounds_toArray, List.set_cons_zero, List.set_cons_succ]
          refine wpAnyH_ready (rs := [3]) (by kernel_rfl) (by simp) ?_
          refine AllReadyH.cons (o := { dst := some 136, op := Op.call { callee := Callee.value (Operand.func 38), args := #[Operand.tmp 135], argTypes := #[71] }, type := 23, pos := "law.go:93", after := #[{ on := 2, ground := Ground.data }, { on := 1, ground := Ground.chain }], guard := none }) rfl (fun K hK => ?_) AllReadyH.nil
          go_simp
          go_at_call 38
          refine (rhere_bo HBd.out).mono ?_
          rintro e u2 ⟨rfl, hb2⟩
          have HB2' := Lib.hid (HBd.out.past hb2)
          have HU2 := Lib.hid hb2
          have s6 : u2.cell? ⟨q, 1, none⟩ = some (.slice aq S'.n cq) ∧ u2.cell? ⟨q, 4, none⟩ = some (.int .i64 S'.err) := ⟨(hb2.cell (p := ⟨q, 1, none⟩) hql).trans s5.1, (hb2.cell (p := ⟨q, 4, none⟩) hql).trans s5.2⟩
          clear hb2
          refine hK.out _ _ s6 (fun hHeld => ?_)
          clear hK K
          try simp only [Act.put, List.setIfInBounds_toArray, List.set_cons_zero, List.set_cons_succ]
          refine wpAnyH_take (i := 4) (oi := { dst := some 137, op := Op.binOp BinOp.neq 23 (Operand.tmp 134) (Operand.tmp 136) 23, type := 4, pos := "law.go:93", after := #[{ on := 1, ground := Ground.data }, { on := 3, ground := Ground.data }], guard := none }) (v := .bool false) rfl (by kernel_rfl) (by kernel_rfl) (by kernel_rfl) (fun _ _ _ h => h) (Or.inl ⟨by rfl, ?_⟩) (by assumption) ?_
          · (intro w0 hSw; (try dsimp only at hSw); go_split_ands; go_simp; (try simp))
          try simp only [Act.put, List.setIfInBounds_toArray, List.set_cons_zero, List.set_cons_succ]
          refine wpAnyH_take (i := 5) (oi := { dst := some 138, op := Op.move (Operand.tmp 137), type := 4, pos := "law.go:93", after := #[{ on := 4, ground := Ground.data }, { on := 3, ground := Ground.chain }], guard := none }) (v := ?_) rfl (by kernel_rfl) (by kernel_rfl) (by kernel_rfl) (fun _ _ _ h => h) (Or.inl ⟨by rfl, ?_⟩) (by assumption) ?_
          rotate_left
          · (intro w0 hSw; (try dsimp only at hSw); go_split_ands; go_simp; with_reducible rfl)
          try simp only [Act.put, List.setIfInBounds_toArray, List.set_cons_zero, List.set_cons_succ]
          refine wpAnyH_take (i := 6) (oi := { dst := some 139, op := Op.move (Operand.tmp 7), type := 43, pos := "law.go:93", after := #[{ on := 5, ground := Ground.guard }], guard := some (5, false) }) (v := ?_) rfl (by kernel_rfl) (by kernel_rfl) (by kernel_rfl) (fun _ _ _ h => h) (Or.inl ⟨by rfl, ?_⟩) (by assumption) ?_
          rotate_left
          · (intro w0 hSw; (try dsimp only at hSw); go_split_ands; go_simp; with_reducible rfl)
          try simp only [Act.put, List.setIfInBounds_toArray, List.set_cons_zero, List.set_cons_succ]
          refine wpAnyH_take (i := 8) (oi := { dst := some 141, op := Op.move (Operand.tmp 8), type := 71, pos := "law.go:93", after := #[{ on := 5, ground := Ground.guard }], guard := some (5, false) }) (v := ?_) rfl (by kernel_rfl) (by kernel_rfl) (by kernel_rfl) (fun _ _ _ h => h) (Or.inl ⟨by rfl, ?_⟩) (by assumption) ?_
          rotate_left
          · (intro w0 hSw; (try dsimp only at hSw); go_split_ands; go_simp; with_reducible rfl)
          try simp only [Act.put, List.setIfInBounds_toArray, List.set_cons_zero, List.set_cons_succ]
          refine wpAnyH_take (i := 9) (oi := { dst := some 142, op := Op.nilCheck (Operand.tmp 141), type := 0, pos := "law.go:93", after := #[{ on := 8, ground := Ground.data }, { on := 5, ground := Ground.guard }], guard := some (5, false) }) (v := ?_) rfl (by kernel_rfl) (by kernel_rfl) (by kernel_rfl) (fun _ _ _ h => h) (Or.inl ⟨by rfl, ?_⟩) (by assumption) ?_
          rotate_left
          · (intro w0 hSw; (try dsimp only at hSw); go_split_ands; go_simp; with_reducible rfl)
          try simp only [Act.put, List.setIfInBounds_toArray, List.set_cons_zero, List.set_cons_succ]
          refine wpAnyH_take (i := 10) (oi := { dst := some 143, op := Op.fieldAddr 74 (Operand.tmp 142) 1, type := 0, pos := "law.go:93", after := #[{ on := 9, ground := Ground.data }, { on := 5, ground := Ground.guard }], guard := some (5, false) }) (v := ?_) rfl (by kernel_rfl) (by kernel_rfl) (by kernel_rfl) (fun _ _ _ h => h) (Or.inl ⟨by rfl, ?_⟩) (by assumption) ?_
          rotate_left
          · (intro w0 hSw; (try dsimp only at hSw); go_split_ands; go_simp; with_reducible rfl)
          try simp only [Act.put, List.setIfInBounds_toArray, List.set_cons_zero, List.set_cons_succ]
          refine wpAnyH_take (i := 11) (oi := { dst := some 144, op := Op.load 63 (Operand.tmp 143), type := 63, pos := "law.go:93", after := #[{ on := 10, ground := Ground.data }, { on := 5, ground := Ground.guard }], guard := some (5, false) }) (v := ?_) rfl (by kernel_rfl) (by kernel_rfl) (by kernel_rfl) (fun _ _ _ h => h) (Or.inl ⟨by rfl, ?_⟩) (by assumption) ?_
          rotate_left
          · (intro w0 hSw; (try dsimp only at hSw); go_split_ands; go_simp; with_reducible rfl)
          try simp only [Act.put, List.setIfInBounds_toArray, List.set_cons_zero, List.set_cons_succ]
          refine wpAnyH_take (i := 12) (oi := { dst := some 145, op := Op.call { callee := Callee.builtin Builtin.len, args := #[Operand.tmp 144], argTypes := #[63] }, type := 3, pos := "law.go:93", after := #[{ on := 11, ground := Ground.data }, { on := 5, ground := Ground.guard }], guard := some (5, false) }) (v := ?_) rfl (by kernel_rfl) (by kernel_rfl) (by kernel_rfl) (fun _ _ _ h => h) (Or.inl ⟨by rfl, ?_⟩) (by assumption) ?_
          rotate_left
          · (intro w0 hSw; (try dsimp only at hSw); go_split_ands; go_simp; with_reducible rfl)
          try simp only [Act.put, List.setIfInBounds_toArray, List.set_cons_zero, List.set_cons_succ]
          refine wpAnyH_ready (rs := [7]) (by kernel_rfl) (by simp) ?_
          refine AllReadyH.cons (o := { dst := some 140, op := Op.call { callee := Callee.value (Operand.func 32), args := #[Operand.tmp 139], argTypes := #[43] }, type := 3, pos := "law.go:93", after := #[{ on := 6, ground := Ground.data }, { on := 5, ground := Ground.chain }, { on := 5, ground := Ground.guard }], guard := some (5, false) }) rfl (fun K hK => ?_) AllReadyH.nil
          go_simp
          go_at_call 32
          refine (len_bo HB2'.out).mono ?_
          rintro e u3 ⟨rfl, rfl⟩
          refine hK.out _ _ s6 (fun hHeld => ?_)
          clear hK K
          try simp only [Act.put, List.setIfInBounds_toArray, List.set_cons_zero, List.set_cons_succ]
          refine wpAnyH_take (i := 13) (oi := { dst := some 146, op := Op.binOp BinOp.neq 3 (Operand.tmp 140) (Operand.tmp 145) 3, type := 4, pos := "law.go:93", after := #[{ on := 7, ground := Ground.data }, { on := 12, ground := Ground.data }, { on := 5, ground := Ground.guard }], guard := some (5, false) }) (v := .bool false) rfl (by kernel_rfl) (by kernel_rfl) (by kernel_rfl) (fun _ _ _ h => h) (Or.inl ⟨by rfl, ?_⟩) (by assumption) ?_
          · (intro w0 hSw; (try dsimp only at hSw); go_split_ands; go_simp; (try simp))
          try simp only [Act.put, List.setIfInBounds_toArray, List.set_cons_zero, List.set_cons_succ]
          refine wpAnyH_take (i := 14) (oi := { dst := some 147, op := Op.pick (Operand.tmp 138) (Operand.const (Value.bool true)) (Operand.tmp 146), type := 4, pos := "law.go:93", after := #[{ on := 5, ground := Ground.data }, { on := 13, ground := Ground.data }], guard := none }) (v := ?_) rfl (by kernel_rfl) (by kernel_rfl) (by kernel_rfl) (fun _ _ _ h => h) (Or.inl ⟨by rfl, ?_⟩) (by assumption) ?_
          rotate_left
          · (intro w0 hSw; (try dsimp only at hSw); go_split_ands; go_simp; with_reducible rfl)
          try simp only [Act.put, List.setIfInBounds_toArray, List.set_cons_zero, List.set_cons_succ]
          refine wpAnyH_take (i := 15) (oi := { dst := some 148, op := Op.move (Operand.tmp 147), type := 4, pos := "law.go:93", after := #[{ on := 14, ground := Ground.data }, { on := 7, ground := Ground.chain }], guard := none }) (v := ?_) rfl (by kernel_rfl) (by kernel_rfl) (by kernel_rfl) (fun _ _ _ h => h) (Or.inl ⟨by rfl, ?_⟩) (by assumption) ?_
          rotate_left
          · (intro w0 hSw; (try dsimp only at hSw); go_split_ands; go_simp; with_reducible rfl)
          try simp only [Act.put, List.setIfInBounds_toArray, List.set_cons_zero, List.set_cons_succ]
          refine wpAnyH_take (i := 16) (oi := { dst := some 149, op := Op.move (Operand.tmp 7), type := 43, pos := "law.go:93", after := #[{ on := 15, ground := Ground.guard }], guard := some (15, false) }) (v := ?_) rfl (by kernel_rfl) (by kernel_rfl) (by kernel_rfl) (fun _ _ _ h => h) (Or.inl ⟨by rfl, ?_⟩) (by assumption) ?_
          rotate_left
          · (intro w0 hSw; (try dsimp only at hSw); go_split_ands; go_simp; with_reducible rfl)
          try simp only [Act.put, List.setIfInBounds_toArray, List.set_cons_zero, List.set_cons_succ]
          refine wpAnyH_take (i := 18) (oi := { dst := some 151, op := Op.move (Operand.tmp 8), type := 71, pos := "law.go:93", after := #[{ on := 15, ground := Ground.guard }], guard := some (15, false) }) (v := ?_) rfl (by kernel_rfl) (by kernel_rfl) (by kernel_rfl) (fun _ _ _ h => h) (Or.inl ⟨by rfl, ?_⟩) (by assumption) ?_
          rotate_left
          · (intro w0 hSw; (try dsimp only at hSw); go_split_ands; go_simp; with_reducible rfl)
          try simp only [Act.put, List.setIfInBounds_toArray, List.set_cons_zero, List.set_cons_succ]
          refine wpAnyH_take (i := 19) (oi := { dst := some 152, op := Op.nilCheck (Operand.tmp 151), type := 0, pos := "law.go:93", after := #[{ on := 18, ground := Ground.data }, { on := 15, ground := Ground.guard }], guard := some (15, false) }) (v := ?_) rfl (by kernel_rfl) (by kernel_rfl) (by kernel_rfl) (fun _ _ _ h => h) (Or.inl ⟨by rfl, ?_⟩) (by assumption) ?_
          rotate_left
          · (intro w0 hSw; (try dsimp only at hSw); go_split_ands; go_simp; with_reducible rfl)
          try simp only [Act.put, List.setIfInBounds_toArray, List.set_cons_zero, List.set_cons_succ]
          refine wpAnyH_take (i := 20) (oi := { dst := some 153, op := Op.fieldAddr 74 (Operand.tmp 152) 4, type := 0, pos := "law.go:93", after := #[{ on := 19, ground := Ground.data }, { on := 15, ground := Ground.guard }], guard := some (15, false) }) (v := ?_) rfl (by kernel_rfl) (by kernel_rfl) (by kernel_rfl) (fun _ _ _ h => h) (Or.inl ⟨by rfl, ?_⟩) (by assumption) ?_
          rotate_left
          · (intro w0 hSw; (try dsimp only at hSw); go_split_ands; go_simp; with_reducible rfl)
          try simp only [Act.put, List.setIfInBounds_toArray, List.set_cons_zero, List.set_cons_succ]
          refine wpAnyH_take (i := 21) (oi := { dst := some 154, op := Op.load 3 (Operand.tmp 153), type := 3, pos := "law.go:93", after := #[{ on := 20, ground := Ground.data }, { on := 15, ground := Ground.guard }], guard := some (15, false) }) (v := ?_) rfl (by kernel_rfl) (by kernel_rfl) (by kernel_rfl) (fun _ _ _ h => h) (Or.inl ⟨by rfl, ?_⟩) (by assumption) ?_
          rotate_left
          · (intro w0 hSw; (try dsimp only at hSw); go_split_ands; go_simp; with_reducible rfl)
          try simp only [Act.put, List.setIfInBounds_toArray, List.set_cons_zero, List.set_cons_succ]
          refine wpAnyH_ready (rs := [17]) (by kernel_rfl) (by simp) ?_
          refine AllReadyH.cons (o := { dst := some 150, op := Op.call { callee := Callee.value (Operand.func 39), args := #[Operand.tmp 149], argTypes := #[43] }, type := 32, pos := "law.go:93", after := #[{ on := 16, ground := Ground.data }, { on := 15, ground := Ground.chain }, { on := 15, ground := Ground.guard }], guard := some (15, false) }) rfl (fun K hK => ?_) AllReadyH.nil
          go_simp
          go_at_call 39
          refine (err_bo HB2'.out).mono ?_
          rintro e u4 ⟨rfl, rfl⟩
          refine hK.out _ _ s6 (fun hHeld => ?_)
          clear hK K
          try simp only [Act.put, List.setIfInBounds_toArray, List.set_cons_zero, List.set_cons_succ]
          refine wpAnyH_take (i := 22) (oi := { dst := some 155, op := Op.binOp BinOp.neq 3 (Operand.tmp 150) (Operand.tmp 154) 3, type := 4, pos := "law.go:93", after := #[{ on := 17, ground := Ground.data }, { on := 21, ground := Ground.data }, { on := 15, ground := Ground.guard }], guard := some (15, false) }) (v := .bool false) rfl (by kernel_rfl) (by kernel_rfl) (by kernel_rfl) (fun _ _ _ h => h) (Or.inl ⟨by rfl, ?_⟩) (by assumption) ?_
          · (intro w0 hSw; (try dsimp only at hSw); go_split_ands; go_simp; (try simp))
          try simp only [Act.put, List.setIfInBounds_toArray, List.set_cons_zero, List.set_cons_succ]
          refine wpAnyH_take (i := 23) (oi := { dst := some 156, op := Op.pick (Operand.tmp 148) (Operand.const (Value.bool true)) (Operand.tmp 155), type := 4, pos := "law.go:93", after := #[{ on := 15, ground := Ground.data }, { on := 22, ground := Ground.data }], guard := none }) (v := ?_) rfl (by kernel_rfl) (by kernel_rfl) (by kernel_rfl) (fun _ _ _ h => h) (Or.inl ⟨by rfl, ?_⟩) (by assumption) ?_
          rotate_left
          · (intro w0 hSw; (try dsimp only at hSw); go_split_ands; go_simp; with_reducible rfl)
          try simp only [Act.put, List.setIfInBounds_toArray, List.set_cons_zero, List.set_cons_succ]
          refine wpAnyH_done (by kernel_rfl) ?_ _
          clear hHeld
          have hrw : rowAt u2 bx = some (acR x) := rowAt_below HWd.out HU2.out rfl
          have e2 : u2.cell? ⟨bx, 2, none⟩ = some (.string x.nm) := rowAt_cell hrw 2
          have hcn' : S'.cnt ≤ 1000000 := by have := HSc.out.cn; omega
          clear s5 s6
          go_wp2_with (first | (go_at_call 30; refine (where_bo HB2'.out x.nm HAC.out.sz).mono ?_; rintro e w' ⟨⟨a1, b1, rfl, hw1⟩, rfl⟩; have HW1 := Lib.hid hw1; clear hw1) | (go_at_call 40; refine (rwhere_bo HB2'.out x.nm hcn').mono ?_; rintro e w' ⟨⟨a2, b2, rfl, hw2⟩, rfl⟩; obtain ⟨ea, eb⟩ := HW1.out.uniq hw2; subst ea eb; clear hw2))
          exact ⟨⟨i + 1, S', by omega, by go_num, Lib.hid ⟨M1, M2, HB2'.out⟩, HSc⟩, by simp [intOf]; omega⟩
      · obtain rfl : i = n := by omega
        obtain ⟨ak, hjp⟩ := HSi.out.jp
        have hcn' : S.cnt ≤ 1000000 := by have := HSi.out.cn; omega
        have hjn' : S.jn ≤ 1000000 := by have := HSi.out.jn; omega
        go_wp2_with (first | (go_at_call 30; refine (where_bo HBF.out nm hnm).mono ?_; rintro e w' ⟨⟨a1, b1, rfl, hw1⟩, rfl⟩; have HW1 := Lib.hid hw1; clear hw1) | (go_at_call 40; refine (rwhere_bo HBF.out nm hcn').mono ?_; rintro e w' ⟨⟨a2, b2, rfl, hw2⟩, rfl⟩; obtain ⟨ea, eb⟩ := HW1.out.uniq hw2; subst ea eb; clear hw2) | (go_at_call 22; refine (words_bo HBF.out ak hjp hjn').mono ?_; rintro e w5 ⟨a3, n3, cp3, er3, L3, rfl, hwo, hrow, hb⟩; have HWO := Lib.hid hwo; have HR3 := Lib.hid hrow; have HB5 := Lib.hid (HBF.out.past hb); clear hwo hrow hb) | (go_at_call 41; refine (rwords_bo HB5.out ak hjp hjn' hcn' HSi.out.gd).mono ?_; rintro e w6 ⟨a4, n4, cp4, er4, L4, rfl, hwo, hrow, hb⟩; obtain ⟨e1, e2, e3⟩ := HWO.out.uniq hwo; subst e1 e2 e3; have HR4 := Lib.hid hrow; have HR3' := Lib.hid (own_keep HR3.out hb); have HB6 := Lib.hid (HB5.out.past hb); clear hwo hrow hb))
        have hn3 := HWO.out.len HSi.out.nl
        go_loopw [25] (fun s25 W => ∃ j : Nat, j ≤ n3 ∧ s25 = .int .i64 j ∧ Hid (Below w6.heap.size w6 W)) (fun s25 _ => n3 - (intOf s25).toNat)
        case atStart => exact ⟨0, Nat.zero_le _, rfl, Lib.hid (Below.refl _ _)⟩
        case round =>
          obtain ⟨j, hj, rfl, HBj⟩ := hrel
          by_cases hlj : j < n3
          · obtain ⟨c, hc⟩ := HWO.out.get j hlj
            obtain ⟨g3, cap3, hv3, _, hg3⟩ := HR3'.out.form (by omega)
            injection hv3 with e1 e2 e3
            subst e1 e3
            obtain ⟨g4, cap4, hv4, _, hg4⟩ := HR4.out.form (by omega)
            injection hv4 with e1 e2 e3
            subst e1 e3
            have cw : wr.cell? ⟨g3, j, none⟩ = some (.int .u32 c) := (HBj.out.cell (p := ⟨g3, j, none⟩) hg3).trans ((own_cells HR3'.out).1 j _ hc)
            have cv : wr.cell? ⟨g4, j, none⟩ = some (.int .u32 c) := (HBj.out.cell (p := ⟨g4, j, none⟩) hg4).trans ((own_cells HR4.out).1 j _ hc)
            go_upto_region 50 with (fail)
            go_quiet (fail)
            go_wp2
            exact ⟨⟨j + 1, by omega, by go_num, Lib.hid (below_drewN HBj.out _)⟩, by simp [intOf]; omega⟩
          · obtain rfl : j = n3 := by omega
            go_wp2
            go_ret
            exact ⟨rfl, HB2.out.trans ((HB6.out.bl.trans (HBj.out.mono HB6.out.sz)).mono (by rw [← HBB.out]; exact HB2.out.size))⟩
end Go.Proofs.Ytnbpgoacooddjaa.Lab
