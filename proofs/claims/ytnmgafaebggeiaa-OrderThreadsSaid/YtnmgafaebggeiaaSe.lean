import Derived.Test.YtnmgafaebggeiaaSd
namespace Go.Proofs.Ytnmgafaebggeiaa.St
open Go.ChangeShapes Go.WideShapes Go.ChangeAt Go.RowKit Go.Maps
set_option linter.unusedVariables false
/-! ### stamp -/
def St.bef (S : St) (k : Nat) : Ck := if S.gone k = 0 ∧ k ≠ 0 then S.beg k else S.now k
def Ck.join (x y : Ck) : Ck := ⟨max x.a y.a, max x.b y.b, max x.c y.c, max x.d y.d⟩
def Ck.tick (x : Ck) (t : Int) : Ck := ⟨if t = 0 then wrap64 (x.a + 1) else x.a, if t = 1 then wrap64 (x.b + 1) else x.b, if t = 2 then wrap64 (x.c + 1) else x.c, if t = 3 then wrap64 (x.d + 1) else x.d⟩
/-- What is set at each event. -/
def St.mark (S : St) (i k : Nat) (c : Ck) : St := { S with now := upd S.now k c, out := upd S.out i c, gone := upd S.gone k (S.gone k + 1) }
/-- What is set by an event's kind. -/
def St.kind (S : St) (e : Ev) (b : Bool) (c : Ck) : St :=
  if e.kd = 4 then { S with ex := fun q => if q = e.ob then c else S.ex q, mx := S.mx + 1 }
  else if e.kd = 2 ∧ b = true then { S with wr := fun q r => if q = e.ob ∧ r = e.sl then c else S.wr q r, mw := S.mw + 1 }
  else if e.kd = 5 ∧ 0 ≤ e.va ∧ e.va < 4 then { S with beg := upd S.beg e.va.toNat c }
  else S
/-- What stands while the joined clock is told. -/
structure I5 (w : World) (t : Nat) (P : Pc) (F : Fx) (S : St) (ev : Array Value) (x : Ck) (W : World) : Prop where
  sm : SmC W P F S
  kp : Kp P.fp w W
  ec : rowAt W t = some ev
  eb : rowAt W (t + 1) = some #[.int .i64 x.a, .int .i64 x.b, .int .i64 x.c, .int .i64 x.d]
section
variable {w W W' : World} {t : Nat} {P : Pc} {F : Fx} {S S' : St} {ev : Array Value} {x : Ck}
theorem I5.past (h : I5 w t P F S ev x W) (hb : Below W.heap.size W W') : I5 w t P F S ev x W' :=
  ⟨h.sm.past hb, h.kp.trans (Kp.of_below (FP := P.fp) hb) fun k hk => .inl hk, rowAt_below h.ec hb rfl, rowAt_below h.eb hb rfl⟩
theorem I5.turn (h : I5 w t P F S ev x W) (hs : SmC W' P F S') (hk : Kp P.fp W W') (ht : ∀ k, P.fp k → k < t) : I5 w t P F S' ev x W' :=
  ⟨hs, h.kp.trans hk fun k hk => .inl hk, rowAt_kp h.ec hk fun hf => Nat.lt_irrefl _ (ht _ hf), rowAt_kp h.eb hk fun hf => by have := ht _ hf; omega⟩
theorem I5.free {S0 : St} (h : I5 w t P F S ev x W) (h0 : SmC w P F S0) {z : Nat} (hg : W.grownBy W' (some z)) (hz : w.heap.size ≤ z) (h1 : z ≠ t) (h2 : z ≠ t + 1) : I5 w t P F S ev x W' :=
  ⟨h0.free h.sm hg hz, ⟨hg.os.trans h.kp.os, hg.tape.trans h.kp.tape, hg.output.trans h.kp.output, Nat.le_trans h.kp.size hg.size, fun k hk hn => (hg.block k (Nat.lt_of_lt_of_le hk h.kp.size) fun e => by injection e with e; omega).trans (h.kp.block k hk hn)⟩, rowAt_grown h.ec hg (Ne.symm h1), rowAt_grown h.eb hg (Ne.symm h2)⟩
theorem I5.setB {S0 : St} (h : I5 w t P F S ev x W) (h0 : SmC w P F S0) (ht : w.heap.size ≤ t) (y : Ck) : I5 w t P F S ev y (st4 W (t + 1) 0 y) := by
  have hg := st4_grown W (t + 1) 0 y
  have hr := rowAt_set (rowAt_set (rowAt_set (rowAt_set h.eb 0 (.int .i64 y.a)) 1 (.int .i64 y.b)) 2 (.int .i64 y.c)) 3 (.int .i64 y.d)
  exact ⟨h0.free h.sm hg (by omega), ⟨hg.os.trans h.kp.os, hg.tape.trans h.kp.tape, hg.output.trans h.kp.output, Nat.le_trans h.kp.size hg.size, fun k hk hn => (hg.block k (Nat.lt_of_lt_of_le hk h.kp.size) fun e => by injection e with e; omega).trans (h.kp.block k hk hn)⟩, rowAt_grown h.ec hg (by omega), hr⟩
theorem I5.make (h : I5 w t P F S ev x W) (ht : w.heap.size ≤ t) : ∃ V cb, V = W.alloc (.cells #[.int .i64 0, .int .i64 0, .int .i64 0, .int .i64 0] 24) ∧ cb = W.heap.size ∧ rowAt V cb = some #[.int .i64 0, .int .i64 0, .int .i64 0, .int .i64 0] ∧ I5 w t P F S ev x V ∧ (w.heap.size ≤ cb ∧ cb ≠ t ∧ cb ≠ t + 1) :=
  ⟨_, _, rfl, rfl, rowAt_new _ _ _, h.past ((Below.refl _ _).alloc (Nat.le_refl _) _), h.kp.size, by have := rowAt_lt h.ec; omega, by have := rowAt_lt h.eb; omega⟩
/-- What stands while the clock is put down. -/
structure I6 (w : World) (t c : Nat) (P : Pc) (F : Fx) (S : St) (ev : Array Value) (z : Ck) (W : World) : Prop where
  sm : SmC W P F S
  kp : Kp P.fp w W
  ec : rowAt W t = some ev
  cc : rowAt W c = some #[.int .i64 z.a, .int .i64 z.b, .int .i64 z.c, .int .i64 z.d]
theorem I6.past {c : Nat} {z : Ck} (h : I6 w t c P F S ev z W) (hb : Below W.heap.size W W') : I6 w t c P F S ev z W' :=
  ⟨h.sm.past hb, h.kp.trans (Kp.of_below (FP := P.fp) hb) fun k hk => .inl hk, rowAt_below h.ec hb rfl, rowAt_below h.cc hb rfl⟩
theorem I6.turn {c b : Nat} {z : Ck} (h : I6 w t c P F S ev z W) (hs : SmC W' P F S') (hg : W.grownBy W' (some b)) (hb : P.fp b) (hf : ∀ q, P.fp q → q < w.heap.size) (ht : w.heap.size ≤ t) (hc : w.heap.size ≤ c) : I6 w t c P F S' ev z W' :=
  ⟨hs, h.kp.trans (Kp.of_grown (FP := P.fp) hg fun q hq => by injection hq with hq; exact hq ▸ hb) fun k hk => .inl hk, rowAt_grown h.ec hg (by have := hf _ hb; omega), rowAt_grown h.cc hg (by have := hf _ hb; omega)⟩
theorem SmC.sync (h : SmC w P F S) {i : Nat} (hi : i < F.N) : w.cell? ⟨P.sb, i, none⟩ = some (.bool (F.sy i)) := by
  refine (own_cells h.sy).1 i _ ?_
  simp [hi]
theorem SmC.ats (h : SmC w P F S) : w.cell? ⟨P.s, 1, none⟩ = some (.slice (some ⟨P.sb, 0, none⟩) F.N F.N) ∧ w.cell? ⟨P.s, 41, none⟩ = some (.slice (some ⟨P.cb, 0, none⟩) F.N F.N) := ⟨h.cell (by omega), h.cell (by omega)⟩
theorem SmC.nows (h : SmC w P F S) {k : Nat} (hk : k < 4) : w.cell? ⟨P.s, 7 + k * 4, none⟩ = some (.int .i64 (S.now k).a) ∧ w.cell? ⟨P.s, 7 + k * 4 + 1, none⟩ = some (.int .i64 (S.now k).b) ∧ w.cell? ⟨P.s, 7 + k * 4 + 2, none⟩ = some (.int .i64 (S.now k).c) ∧ w.cell? ⟨P.s, 7 + k * 4 + 3, none⟩ = some (.int .i64 (S.now k).d) :=
  ⟨(h.cell (by omega)).trans (congrArg some (cell_now hk 0 (by omega))), (h.cell (by omega)).trans (congrArg some (cell_now hk 1 (by omega))), (h.cell (by omega)).trans (congrArg some (cell_now hk 2 (by omega))), (h.cell (by omega)).trans (congrArg some (cell_now hk 3 (by omega)))⟩
theorem SmC.begs (h : SmC w P F S) {k : Nat} (hk : k < 4) : w.cell? ⟨P.s, 23 + k * 4, none⟩ = some (.int .i64 (S.beg k).a) ∧ w.cell? ⟨P.s, 23 + k * 4 + 1, none⟩ = some (.int .i64 (S.beg k).b) ∧ w.cell? ⟨P.s, 23 + k * 4 + 2, none⟩ = some (.int .i64 (S.beg k).c) ∧ w.cell? ⟨P.s, 23 + k * 4 + 3, none⟩ = some (.int .i64 (S.beg k).d) :=
  ⟨(h.cell (by omega)).trans (congrArg some (cell_beg hk 0 (by omega))), (h.cell (by omega)).trans (congrArg some (cell_beg hk 1 (by omega))), (h.cell (by omega)).trans (congrArg some (cell_beg hk 2 (by omega))), (h.cell (by omega)).trans (congrArg some (cell_beg hk 3 (by omega)))⟩
theorem SmC.goes (h : SmC w P F S) {k : Nat} (hk : k < 4) : w.cell? ⟨P.s, 3 + k, none⟩ = some (.int .i64 (S.gone k)) := (h.cell (by omega)).trans (congrArg some (cell_gone hk))
theorem SmC.outs (h : SmC w P F S) {i : Nat} (hi : i < F.N) : w.cell? ⟨P.cb, i * 4, none⟩ = some (.int .i64 (S.out i).a) ∧ w.cell? ⟨P.cb, i * 4 + 1, none⟩ = some (.int .i64 (S.out i).b) ∧ w.cell? ⟨P.cb, i * 4 + 2, none⟩ = some (.int .i64 (S.out i).c) ∧ w.cell? ⟨P.cb, i * 4 + 3, none⟩ = some (.int .i64 (S.out i).d) := by
  have h1 : ∀ r, r < 4 → w.cell? ⟨P.cb, i * 4 + r, none⟩ = some ((S.out i).at r) := fun r hr => by
    rw [cell_of_row w P.cb (i * 4 + r) _ 24 _ h.clk]
    unfold rowC
    have : i * 4 + r < F.N * 4 := by omega
    simp [this]
    rw [show (i * 4 + r) / 4 = i by omega, show r % 4 = r by omega]
  exact ⟨h1 0 (by omega), h1 1 (by omega), h1 2 (by omega), h1 3 (by omega)⟩
theorem SmC.cfrz (h : SmC w P F S) (j : Nat) : w.frozen? ⟨P.cb, j, none⟩ = false := frozen_of_row w P.cb j _ 24 h.clk
end
set_option maxRecDepth 100000 in
set_option maxHeartbeats 8000000 in
theorem stamp_i {w : World} {P : Pc} {F : Fx} {S S' : St} (h : SmC w P F S) {i : Nat} (hi : i < F.N) {k : Nat} (hk : k < 4) (kd ob sl va : Int) (rf : Bool) (f1 f2 tm : Int) (he : F.X i = ⟨k, kd, ob, sl, va, rf, f1, f2, tm⟩) (x : Ck)
    (HJ : ∀ W, SmC W P F S → Calls Try.prog 34 #[.pointer (some ⟨P.s, 0, none⟩), .agg #[.int .i64 k, .int .i64 kd, .int .i64 ob, .int .i64 sl, .int .i64 va, .bool rf, .int .i64 f1, .int .i64 f2, .int .i64 tm], .bool (F.sy i)] W fun r W' => r = .returned x.v ∧ SmC W' P F S' ∧ Kp P.fp W W')
    (hg : S'.gone k < 1000) (hm1 : S'.mx < 1000) (hm2 : S'.mw < 1000) :
    Calls Try.prog 29 #[.pointer (some ⟨P.s, 0, none⟩), .int .i64 i] w fun r w' => r = .returned (.tuple #[]) ∧ SmC w' P F ((S'.mark i k (((S.bef k).join x).tick k)).kind (F.X i) (F.sy i) (((S.bef k).join x).tick k)) ∧ Kp P.fp w w' := by
  have HH := Lib.hid h
  have HJH := Lib.hid HJ
  have HKL := Lib.hid hk
  have HIL := Lib.hid hi
  obtain ⟨hea, hev⟩ := h.ev i hi
  rw [he] at hev ⊢
  have hwf := (h.xs i hi).1
  rw [he] at hwf
  obtain ⟨_, _, wo, ws, wv, _⟩ := hwf
  have HWF : Hid (Wf ob ∧ Wf sl ∧ Wf va) := Lib.hid ⟨wo, ws, wv⟩
  have hgl := HH.out.n150
  have HFR : Hid (∀ q, P.fp q → q < w.heap.size) := Lib.hid fun q hq => HH.out.fl hq
  have k1 := h.past ((Below.refl w.heap.size w).alloc (Nat.le_refl _) (.cells #[.int .i64 k, .int .i64 kd, .int .i64 ob, .int .i64 sl, .int .i64 va, .bool rf, .int .i64 f1, .int .i64 f2, .int .i64 tm] 44))
  have k2 := h.past (((Below.refl w.heap.size w).alloc (Nat.le_refl _) (.cells #[.int .i64 k, .int .i64 kd, .int .i64 ob, .int .i64 sl, .int .i64 va, .bool rf, .int .i64 f1, .int .i64 f2, .int .i64 tm] 44)).alloc (by simp) (.cells #[.int .i64 (S.now k).a, .int .i64 (S.now k).b, .int .i64 (S.now k).c, .int .i64 (S.now k).d] 24))
  have s0 : w.cell? ⟨P.s, 0, none⟩ = some (.slice (some ⟨P.eb, P.eo, none⟩) F.N P.ec) := hea ▸ h.cell (j := 0) (by omega)
  have c0 := hev.c0
  have c1 := hev.c1
  have c2 := hev.c2
  have c3 := hev.c3
  have c4 := hev.c4
  have c5 := hev.c5
  have c6 := hev.c6
  have c7 := hev.c7
  have c8 := hev.c8
  dsimp only at c0 c1 c2 c3 c4 c5 c6 c7 c8
  obtain ⟨n0, n1, n2, n3⟩ := k1.nows hk
  have gi : (i : Int) < F.N := by omega
  have gi0 : (0 : Int) ≤ i := by omega
  have gk : (k : Int) < 4 := by omega
  have gk0 : (0 : Int) ≤ k := by omega
  have HU : Hid (I5 w w.heap.size P F S #[.int .i64 k, .int .i64 kd, .int .i64 ob, .int .i64 sl, .int .i64 va, .bool rf, .int .i64 f1, .int .i64 f2, .int .i64 tm] (S.now k) ((w.alloc (.cells #[.int .i64 k, .int .i64 kd, .int .i64 ob, .int .i64 sl, .int .i64 va, .bool rf, .int .i64 f1, .int .i64 f2, .int .i64 tm] 44)).alloc (.cells #[.int .i64 (S.now k).a, .int .i64 (S.now k).b, .int .i64 (S.now k).c, .int .i64 (S.now k).d] 24))) := Lib.hid ⟨k2, Kp.of_below (((Below.refl w.heap.size w).alloc (Nat.le_refl _) (.cells #[.int .i64 k, .int .i64 kd, .int .i64 ob, .int .i64 sl, .int .i64 va, .bool rf, .int .i64 f1, .int .i64 f2, .int .i64 tm] 44)).alloc (by simp) (.cells #[.int .i64 (S.now k).a, .int .i64 (S.now k).b, .int .i64 (S.now k).c, .int .i64 (S.now k).d] 24)), rowAt_past (rowAt_new _ _ _) _, by have := rowAt_new (w.alloc (.cells #[.int .i64 k, .int .i64 kd, .int .i64 ob, .int .i64 sl, .int .i64 va, .bool rf, .int .i64 f1, .int .i64 f2, .int .i64 tm] 44)) #[.int .i64 (S.now k).a, .int .i64 (S.now k).b, .int .i64 (S.now k).c, .int .i64 (S.now k).d] 24; rwa [size_alloc] at this⟩
  clear k1 k2 h HJ hea hev wo ws wv hi hk he
  generalize hfn : F.N = N at s0 gi hgl
  have HN := Lib.hid hfn
  clear hfn
  generalize hev : (⟨k, kd, ob, sl, va, rf, f1, f2, tm⟩ : Ev) = E
  have HE := Lib.hid hev
  clear hev
  go_enter Try.func29, Try.ntmps29
  go_upto_region 3 with (fail)
  clear s0 c0 c1 c2 c3 c4 c5 c6 c7 c8 n0 n1 n2 n3
  obtain ⟨U, hU⟩ : ∃ U, U = ((w.alloc (.cells #[.int .i64 k, .int .i64 kd, .int .i64 ob, .int .i64 sl, .int .i64 va, .bool rf, .int .i64 f1, .int .i64 f2, .int .i64 tm] 44)).alloc (.cells #[.int .i64 (S.now k).a, .int .i64 (S.now k).b, .int .i64 (S.now k).c, .int .i64 (S.now k).d] 24)) := ⟨_, rfl⟩
  rw [← hU] at HU ⊢
  clear hU
  obtain ⟨t, ht⟩ : ∃ t, t = w.heap.size := ⟨_, rfl⟩
  have HT := Lib.hid ht
  rw [← ht] at HU ⊢
  clear ht
  obtain ⟨gb, hgb⟩ : ∃ gb : Bool, gb = decide (S.gone k = 0 ∧ k ≠ 0) := ⟨_, rfl⟩
  have HGB := Lib.hid hgb
  have HBEF : Hid (S.bef k = if gb = true then S.beg k else S.now k) := Lib.hid (by unfold St.bef; rw [hgb]; simp)
  clear hgb
  go_cut [33] from 23 to 32 (fun s wx => s = .bool gb ∧ wx = U)
  case first =>
    have e1 := HU.out.sm.goes HKL.out
    by_cases hz : S.gone k = 0
    · have q1 : (((S.gone k : Nat) : Int) == 0) = true := by simp [hz]
      by_cases hk0 : k = 0
      · have q2 : ((k : Int) != 0) = false := by simp [hk0]
        have HA : Hid (gb = false) := Lib.hid (by rw [HGB.out]; simp [hk0])
        clear hk0 hz
        go_wp2_with fail
        go_meet
        case rel => exact ⟨by rw [HA.out], rfl⟩
      · have q2 : ((k : Int) != 0) = true := by simp; omega
        have HA : Hid (gb = true) := Lib.hid (by rw [HGB.out]; simp [hk0, hz])
        clear hk0 hz
        go_wp2_with fail
        go_meet
        case rel => exact ⟨by rw [HA.out], rfl⟩
    · have q1 : (((S.gone k : Nat) : Int) == 0) = false := by simp; omega
      have HA : Hid (gb = false) := Lib.hid (by rw [HGB.out]; simp [hz])
      clear hz
      go_wp2_with fail
      go_meet
      case rel => exact ⟨by rw [HA.out], rfl⟩
  case rest =>
  obtain ⟨hs, hw⟩ := hcut
  subst hs
  obtain rfl := hw.symm
  clear hw
  clear HGB
  go_upto_if 33 with (fail)
  go_cut [] from 34 to 39 (fun wx => I5 w t P F S #[.int .i64 k, .int .i64 kd, .int .i64 ob, .int .i64 sl, .int .i64 va, .bool rf, .int .i64 f1, .int .i64 f2, .int .i64 tm] (S.bef k) wx)
  case first =>
    cases gb with
    | true =>
        have HEB : Hid (S.bef k = S.beg k) := Lib.hid (by rw [HBEF.out]; simp)
        obtain ⟨b0, b1, b2, b3⟩ := HU.out.sm.begs HKL.out
        have z0 := rowAt_cell HU.out.eb 0
        have z1 := rowAt_cell HU.out.eb 1
        have z2 := rowAt_cell HU.out.eb 2
        have z3 := rowAt_cell HU.out.eb 3
        simp only [List.getElem?_toArray, List.getElem?_cons_zero, List.getElem?_cons_succ] at z0 z1 z2 z3
        have f0 := rowAt_frz HU.out.eb 0
        have g1 := rowAt_frz HU.out.eb 1
        have g2 := rowAt_frz HU.out.eb 2
        have f3 := rowAt_frz HU.out.eb 3
        go_wp2_with fail
        go_meet
        case rel =>
          rw [HEB.out]
          exact HU.out.setB HH.out (by rw [HT.out]; exact Nat.le_refl _) (S.beg k)
    | false =>
      have HEB : Hid (S.bef k = S.now k) := Lib.hid (by rw [HBEF.out]; simp)
      go_wp2_with fail
      go_meet
      case rel => rw [HEB.out]; exact HU.out
  case rest =>
  replace HU := Lib.hid hcut
  clear hcut HBEF
  generalize hy : S.bef k = y at HU ⊢
  have HY := Lib.hid hy
  clear hy
  generalize wc = U at HU ⊢
  obtain ⟨z, hz⟩ : ∃ z, z = (y.join x).tick k := ⟨_, rfl⟩
  have HTK : Hid (tkV (max y.a x.a) (max y.b x.b) (max y.c x.c) (max y.d x.d) k = .agg #[.int .i64 z.a, .int .i64 z.b, .int .i64 z.c, .int .i64 z.d]) := Lib.hid (by rw [hz]; rfl)
  have HZ := Lib.hid hz
  clear hz
  go_upto_region 5 with (fail)
  go_cut [7] from 40 to 53 (fun s wx => ∃ c, s = .pointer (some ⟨c, 0, none⟩) ∧ rowAt wx c = some #[.int .i64 z.a, .int .i64 z.b, .int .i64 z.c, .int .i64 z.d] ∧ I5 w t P F S' #[.int .i64 k, .int .i64 kd, .int .i64 ob, .int .i64 sl, .int .i64 va, .bool rf, .int .i64 f1, .int .i64 f2, .int .i64 tm] y wx ∧ w.heap.size ≤ c ∧ c ≠ t ∧ c ≠ t + 1)
  case first =>
    have HHO : Hid (∀ S0 W, I5 w t P F S0 #[.int .i64 k, .int .i64 kd, .int .i64 ob, .int .i64 sl, .int .i64 va, .bool rf, .int .i64 f1, .int .i64 f2, .int .i64 tm] y W → W.cell? ⟨t + 1, 0, none⟩ = some (.int .i64 y.a) ∧ W.cell? ⟨t + 1, 1, none⟩ = some (.int .i64 y.b) ∧ W.cell? ⟨t + 1, 2, none⟩ = some (.int .i64 y.c) ∧ W.cell? ⟨t + 1, 3, none⟩ = some (.int .i64 y.d) ∧ W.cell? ⟨t, 0, none⟩ = some (.int .i64 k) ∧ W.cell? ⟨t, 1, none⟩ = some (.int .i64 kd) ∧ W.cell? ⟨t, 2, none⟩ = some (.int .i64 ob) ∧ W.cell? ⟨t, 3, none⟩ = some (.int .i64 sl) ∧ W.cell? ⟨t, 4, none⟩ = some (.int .i64 va) ∧ W.cell? ⟨t, 5, none⟩ = some (.bool rf) ∧ W.cell? ⟨t, 6, none⟩ = some (.int .i64 f1) ∧ W.cell? ⟨t, 7, none⟩ = some (.int .i64 f2) ∧ W.cell? ⟨t, 8, none⟩ = some (.int .i64 tm) ∧ W.cell? ⟨P.s, 1, none⟩ = some (.slice (some ⟨P.sb, 0, none⟩) N N) ∧ W.cell? ⟨P.sb, i, none⟩ = some (.bool (F.sy i))) := Lib.hid (fun S0 W h => ⟨rowAt_cell h.eb 0, rowAt_cell h.eb 1, rowAt_cell h.eb 2, rowAt_cell h.eb 3, rowAt_cell h.ec 0, rowAt_cell h.ec 1, rowAt_cell h.ec 2, rowAt_cell h.ec 3, rowAt_cell h.ec 4, rowAt_cell h.ec 5, rowAt_cell h.ec 6, rowAt_cell h.ec 7, rowAt_cell h.ec 8, HN.out ▸ h.sm.ats.1, h.sm.sync HIL.out⟩)
    have HI : Hid (I5 w t P F S #[.int .i64 k, .int .i64 kd, .int .i64 ob, .int .i64 sl, .int .i64 va, .bool rf, .int .i64 f1, .int .i64 f2, .int .i64 tm] y U.drew) := Lib.hid (HU.out.past (Below.refl _ _).drew)
    clear HU
    go_wp2
    refine region_e 15 (fun w' => w'.cell? ⟨t + 1, 0, none⟩ = some (.int .i64 y.a) ∧ w'.cell? ⟨t + 1, 1, none⟩ = some (.int .i64 y.b) ∧ w'.cell? ⟨t + 1, 2, none⟩ = some (.int .i64 y.c) ∧ w'.cell? ⟨t + 1, 3, none⟩ = some (.int .i64 y.d) ∧ w'.cell? ⟨t, 0, none⟩ = some (.int .i64 k) ∧ w'.cell? ⟨t, 1, none⟩ = some (.int .i64 kd) ∧ w'.cell? ⟨t, 2, none⟩ = some (.int .i64 ob) ∧ w'.cell? ⟨t, 3, none⟩ = some (.int .i64 sl) ∧ w'.cell? ⟨t, 4, none⟩ = some (.int .i64 va) ∧ w'.cell? ⟨t, 5, none⟩ = some (.bool rf) ∧ w'.cell? ⟨t, 6, none⟩ = some (.int .i64 f1) ∧ w'.cell? ⟨t, 7, none⟩ = some (.int .i64 f2) ∧ w'.cell? ⟨t, 8, none⟩ = some (.int .i64 tm) ∧ w'.cell? ⟨P.s, 1, none⟩ = some (.slice (some ⟨P.sb, 0, none⟩) N N) ∧ w'.cell? ⟨P.sb, i, none⟩ = some (.bool (F.sy i))) (by kernel_rfl) (HHO.out _ _ HI.out) (fun hHeld => ?_)
    generalize U.drew = u0 at hHeld HI ⊢
    refine AnyE.take (i := 0) (oi := { dst := some 40, op := Go.Op.load 24 (Go.Operand.tmp 6), type := 24, pos := "stamp.go:115", after := #[], guard := none }) (v := ?_) rfl (by kernel_rfl) (by kernel_rfl) (by kernel_rfl) (by kernel_rfl) (fun _ _ _ h => h) (Or.inl ⟨by rfl, ?_⟩) (by assumption) ?_
    rotate_left
    · (intro w0 hSw; (try dsimp only at hSw); go_split_ands; go_simp; with_reducible rfl)
    try simp only [Act.put, List.setIfInBounds_toArray, List.set_cons_zero, List.set_cons_succ]
    refine AnyE.take (i := 1) (oi := { dst := some 41, op := Go.Op.move (Go.Operand.tmp 0), type := 50, pos := "stamp.go:115", after := #[], guard := none }) (v := ?_) rfl (by kernel_rfl) (by kernel_rfl) (by kernel_rfl) (by kernel_rfl) (fun _ _ _ h => h) (Or.inl ⟨by rfl, ?_⟩) (by assumption) ?_
    rotate_left
    · (intro w0 hSw; (try dsimp only at hSw); go_split_ands; go_simp; with_reducible rfl)
    try simp only [Act.put, List.setIfInBounds_toArray, List.set_cons_zero, List.set_cons_succ]
    refine AnyE.take (i := 2) (oi := { dst := some 42, op := Go.Op.load 44 (Go.Operand.tmp 4), type := 44, pos := "stamp.go:115", after := #[], guard := none }) (v := ?_) rfl (by kernel_rfl) (by kernel_rfl) (by kernel_rfl) (by kernel_rfl) (fun _ _ _ h => h) (Or.inl ⟨by rfl, ?_⟩) (by assumption) ?_
    rotate_left
    · (intro w0 hSw; (try dsimp only at hSw); go_split_ands; go_simp; with_reducible rfl)
    try simp only [Act.put, List.setIfInBounds_toArray, List.set_cons_zero, List.set_cons_succ]
    refine AnyE.take (i := 3) (oi := { dst := some 43, op := Go.Op.move (Go.Operand.tmp 0), type := 50, pos := "stamp.go:115", after := #[], guard := none }) (v := ?_) rfl (by kernel_rfl) (by kernel_rfl) (by kernel_rfl) (by kernel_rfl) (fun _ _ _ h => h) (Or.inl ⟨by rfl, ?_⟩) (by assumption) ?_
    rotate_left
    · (intro w0 hSw; (try dsimp only at hSw); go_split_ands; go_simp; with_reducible rfl)
    try simp only [Act.put, List.setIfInBounds_toArray, List.set_cons_zero, List.set_cons_succ]
    refine AnyE.take (i := 4) (oi := { dst := some 44, op := Go.Op.nilCheck (Go.Operand.tmp 43), type := 0, pos := "stamp.go:115", after := #[{ on := 3, ground := Go.Ground.data }], guard := none }) (v := ?_) rfl (by kernel_rfl) (by kernel_rfl) (by kernel_rfl) (by kernel_rfl) (fun _ _ _ h => h) (Or.inl ⟨by rfl, ?_⟩) (by assumption) ?_
    rotate_left
    · (intro w0 hSw; (try dsimp only at hSw); go_split_ands; go_simp; with_reducible rfl)
    try simp only [Act.put, List.setIfInBounds_toArray, List.set_cons_zero, List.set_cons_succ]
    refine AnyE.take (i := 5) (oi := { dst := some 45, op := Go.Op.fieldAddr 59 (Go.Operand.tmp 44) 1, type := 0, pos := "stamp.go:115", after := #[{ on := 4, ground := Go.Ground.data }], guard := none }) (v := ?_) rfl (by kernel_rfl) (by kernel_rfl) (by kernel_rfl) (by kernel_rfl) (fun _ _ _ h => h) (Or.inl ⟨by rfl, ?_⟩) (by assumption) ?_
    rotate_left
    · (intro w0 hSw; (try dsimp only at hSw); go_split_ands; go_simp; with_reducible rfl)
    try simp only [Act.put, List.setIfInBounds_toArray, List.set_cons_zero, List.set_cons_succ]
    refine AnyE.take (i := 6) (oi := { dst := some 46, op := Go.Op.load 51 (Go.Operand.tmp 45), type := 51, pos := "stamp.go:115", after := #[{ on := 5, ground := Go.Ground.data }], guard := none }) (v := ?_) rfl (by kernel_rfl) (by kernel_rfl) (by kernel_rfl) (by kernel_rfl) (fun _ _ _ h => h) (Or.inl ⟨by rfl, ?_⟩) (by assumption) ?_
    rotate_left
    · (intro w0 hSw; (try dsimp only at hSw); go_split_ands; go_simp; with_reducible rfl)
    try simp only [Act.put, List.setIfInBounds_toArray, List.set_cons_zero, List.set_cons_succ]
    refine AnyE.take (i := 7) (oi := { dst := some 47, op := Go.Op.move (Go.Operand.tmp 1), type := 3, pos := "stamp.go:115", after := #[], guard := none }) (v := ?_) rfl (by kernel_rfl) (by kernel_rfl) (by kernel_rfl) (by kernel_rfl) (fun _ _ _ h => h) (Or.inl ⟨by rfl, ?_⟩) (by assumption) ?_
    rotate_left
    · (intro w0 hSw; (try dsimp only at hSw); go_split_ands; go_simp; with_reducible rfl)
    try simp only [Act.put, List.setIfInBounds_toArray, List.set_cons_zero, List.set_cons_succ]
    refine AnyE.take (i := 8) (oi := { dst := some 48, op := Go.Op.indexAddr 51 (Go.Operand.tmp 46) (Go.Operand.tmp 47), type := 0, pos := "stamp.go:115", after := #[{ on := 6, ground := Go.Ground.data }, { on := 7, ground := Go.Ground.data }], guard := none }) (v := ?_) rfl (by kernel_rfl) (by kernel_rfl) (by kernel_rfl) (by kernel_rfl) (fun _ _ _ h => h) (Or.inl ⟨by rfl, ?_⟩) (by assumption) ?_
    rotate_left
    · (intro w0 hSw; (try dsimp only at hSw); go_split_ands; go_simp; with_reducible rfl)
    try simp only [Act.put, List.setIfInBounds_toArray, List.set_cons_zero, List.set_cons_succ]
    refine AnyE.take (i := 9) (oi := { dst := some 49, op := Go.Op.load 4 (Go.Operand.tmp 48), type := 4, pos := "stamp.go:115", after := #[{ on := 8, ground := Go.Ground.data }], guard := none }) (v := ?_) rfl (by kernel_rfl) (by kernel_rfl) (by kernel_rfl) (by kernel_rfl) (fun _ _ _ h => h) (Or.inl ⟨by rfl, ?_⟩) (by assumption) ?_
    rotate_left
    · (intro w0 hSw; (try dsimp only at hSw); go_split_ands; go_simp; with_reducible rfl)
    try simp only [Act.put, List.setIfInBounds_toArray, List.set_cons_zero, List.set_cons_succ]
    refine AnyE.take (i := 12) (oi := { dst := some 52, op := Go.Op.move (Go.Operand.tmp 5), type := 3, pos := "stamp.go:115", after := #[], guard := none }) (v := ?_) rfl (by kernel_rfl) (by kernel_rfl) (by kernel_rfl) (by kernel_rfl) (fun _ _ _ h => h) (Or.inl ⟨by rfl, ?_⟩) (by assumption) ?_
    rotate_left
    · (intro w0 hSw; (try dsimp only at hSw); go_split_ands; go_simp; with_reducible rfl)
    try simp only [Act.put, List.setIfInBounds_toArray, List.set_cons_zero, List.set_cons_succ]
    refine AnyE.ready (rs := [10, 14]) (by kernel_rfl) (by simp) ?_
    refine AllE.cons (o := { dst := some 50, op := Go.Op.call { callee := Go.Callee.value (Go.Operand.func 34), args := #[Go.Operand.tmp 41, Go.Operand.tmp 42, Go.Operand.tmp 49], argTypes := #[50, 44, 4] }, type := 24, pos := "stamp.go:115", after := #[{ on := 1, ground := Go.Ground.data }, { on := 2, ground := Go.Ground.data }, { on := 9, ground := Go.Ground.data }], guard := none }) rfl (fun K hK => ?_) (AllE.cons (o := { dst := some 7, op := Go.Op.alloc 24, type := 0, pos := "stamp.go:115", after := #[], guard := none }) rfl (fun K hK => ?_) AllE.nil)
    · go_simp
      go_at_call 34
      refine (HJH.out _ HI.out.sm).mono ?_
      rintro e u1 ⟨rfl, hs5, hk5⟩
      replace HI := Lib.hid (HI.out.turn hs5 hk5 (fun q hq => by rw [HT.out]; exact HFR.out q hq))
      clear hs5 hk5
      unfold Ck.v
      refine hK.out _ _ (HHO.out _ _ HI.out) (fun hHeld => ?_)
      clear hK K
      try simp only [Act.put, List.setIfInBounds_toArray, List.set_cons_zero, List.set_cons_succ]
      refine AnyE.ready (rs := [11, 14]) (by kernel_rfl) (by simp) ?_
      refine AllE.cons (o := { dst := some 51, op := Go.Op.call { callee := Go.Callee.value (Go.Operand.func 8), args := #[Go.Operand.tmp 40, Go.Operand.tmp 50], argTypes := #[24, 24] }, type := 24, pos := "stamp.go:115", after := #[{ on := 0, ground := Go.Ground.data }, { on := 10, ground := Go.Ground.data }, { on := 10, ground := Go.Ground.chain }], guard := none }) rfl (fun K hK => ?_) (AllE.cons (o := { dst := some 7, op := Go.Op.alloc 24, type := 0, pos := "stamp.go:115", after := #[], guard := none }) rfl (fun K hK => ?_) AllE.nil)
      · go_simp
        go_at_call 8
        refine (join_c _ _ _ _ _ _ _ _ _).mono ?_
        rintro e u1 ⟨rfl, hb⟩
        replace HI := Lib.hid (HI.out.past hb)
        clear hb
        unfold ck
        refine hK.out _ _ (HHO.out _ _ HI.out) (fun hHeld => ?_)
        clear hK K
        try simp only [Act.put, List.setIfInBounds_toArray, List.set_cons_zero, List.set_cons_succ]
        refine AnyE.ready (rs := [13, 14]) (by kernel_rfl) (by simp) ?_
        refine AllE.cons (o := { dst := some 53, op := Go.Op.call { callee := Go.Callee.value (Go.Operand.func 10), args := #[Go.Operand.tmp 51, Go.Operand.tmp 52], argTypes := #[24, 3] }, type := 24, pos := "stamp.go:115", after := #[{ on := 11, ground := Go.Ground.data }, { on := 12, ground := Go.Ground.data }, { on := 11, ground := Go.Ground.chain }], guard := none }) rfl (fun K hK => ?_) (AllE.cons (o := { dst := some 7, op := Go.Op.alloc 24, type := 0, pos := "stamp.go:115", after := #[], guard := none }) rfl (fun K hK => ?_) AllE.nil)
        · go_simp
          go_at_call 10
          refine (tick_c _ _ _ _ _ _).mono ?_
          rintro e u1 ⟨rfl, hb⟩
          replace HI := Lib.hid (HI.out.past hb)
          clear hb
          rw [HTK.out]
          refine hK.out _ _ (HHO.out _ _ HI.out) (fun hHeld => ?_)
          clear hK K
          try simp only [Act.put, List.setIfInBounds_toArray, List.set_cons_zero, List.set_cons_succ]
          refine AnyE.ready (rs := [14]) (by kernel_rfl) (by simp) ?_
          refine AllE.cons (o := { dst := some 7, op := Go.Op.alloc 24, type := 0, pos := "stamp.go:115", after := #[], guard := none }) rfl (fun K hK => ?_) AllE.nil
          go_simp
          obtain ⟨V, cb, hV, hb, hC, hI, hcb⟩ := I5.make HI.out (Nat.le_of_eq HT.out.symm)
          rw [← hV, ← hb]
          have HC := Lib.hid hC
          replace HI := Lib.hid hI
          clear hC hI hV hb
          refine hK.out _ _ (HHO.out _ _ HI.out) (fun hHeld => ?_)
          clear hK K
          try simp only [Act.put, List.setIfInBounds_toArray, List.set_cons_zero, List.set_cons_succ]
          have z0 := rowAt_cell HC.out 0
          have z1 := rowAt_cell HC.out 1
          have z2 := rowAt_cell HC.out 2
          have z3 := rowAt_cell HC.out 3
          simp only [List.getElem?_toArray, List.getElem?_cons_zero, List.getElem?_cons_succ] at z0 z1 z2 z3
          have f0 := rowAt_frz HC.out 0
          have g1 := rowAt_frz HC.out 1
          have g2 := rowAt_frz HC.out 2
          have f3 := rowAt_frz HC.out 3
          refine AnyE.ready (rs := [15]) (by kernel_rfl) (by simp) ?_
          refine AllE.last (o := { dst := none, op := Go.Op.store 24 (Go.Operand.tmp 7) (Go.Operand.tmp 53), type := 0, pos := "stamp.go:115", after := #[{ on := 14, ground := Go.Ground.data }, { on := 13, ground := Go.Ground.data }, { on := 13, ground := Go.Ground.chain }, { on := 0, ground := Go.Ground.phase }, { on := 1, ground := Go.Ground.phase }, { on := 2, ground := Go.Ground.phase }, { on := 3, ground := Go.Ground.phase }, { on := 4, ground := Go.Ground.phase }, { on := 5, ground := Go.Ground.phase }, { on := 6, ground := Go.Ground.phase }, { on := 7, ground := Go.Ground.phase }, { on := 8, ground := Go.Ground.phase }, { on := 9, ground := Go.Ground.phase }, { on := 10, ground := Go.Ground.phase }, { on := 11, ground := Go.Ground.phase }, { on := 12, ground := Go.Ground.phase }, { on := 13, ground := Go.Ground.phase }, { on := 14, ground := Go.Ground.phase }], guard := none }) rfl (by kernel_rfl) (fun K hK => ?_)
          clear hHeld
          go_simp
          refine hK.out _ _ ?_
          clear hK K
          try simp only [Act.put, List.setIfInBounds_toArray, List.set_cons_zero, List.set_cons_succ]
          go_wp2_with fail
          go_meet
          case rel => exact ⟨cb, rfl, rowAt_set (rowAt_set (rowAt_set (rowAt_set HC.out 0 (.int .i64 z.a)) 1 (.int .i64 z.b)) 2 (.int .i64 z.c)) 3 (.int .i64 z.d), HI.out.free HH.out (st4_grown _ cb 0 z) hcb.1 hcb.2.1 hcb.2.2, hcb⟩
        · go_simp
          obtain ⟨V, cb, hV, hb, hC, hI, hcb⟩ := I5.make HI.out (Nat.le_of_eq HT.out.symm)
          rw [← hV, ← hb]
          have HC := Lib.hid hC
          replace HI := Lib.hid hI
          clear hC hI hV hb
          refine hK.out _ _ (HHO.out _ _ HI.out) (fun hHeld => ?_)
          clear hK K
          try simp only [Act.put, List.setIfInBounds_toArray, List.set_cons_zero, List.set_cons_succ]
          refine AnyE.ready (rs := [13]) (by kernel_rfl) (by simp) ?_
          refine AllE.cons (o := { dst := some 53, op := Go.Op.call { callee := Go.Callee.value (Go.Operand.func 10), args := #[Go.Operand.tmp 51, Go.Operand.tmp 52], argTypes := #[24, 3] }, type := 24, pos := "stamp.go:115", after := #[{ on := 11, ground := Go.Ground.data }, { on := 12, ground := Go.Ground.data }, { on := 11, ground := Go.Ground.chain }], guard := none }) rfl (fun K hK => ?_) AllE.nil
          go_simp
          go_at_call 10
          refine (tick_c _ _ _ _ _ _).mono ?_
          rintro e u1 ⟨rfl, hb⟩
          replace HC := Lib.hid (rowAt_below HC.out hb rfl)
          replace HI := Lib.hid (HI.out.past hb)
          clear hb
          rw [HTK.out]
          refine hK.out _ _ (HHO.out _ _ HI.out) (fun hHeld => ?_)
          clear hK K
          try simp only [Act.put, List.setIfInBounds_toArray, List.set_cons_zero, List.set_cons_succ]
          have z0 := rowAt_cell HC.out 0
          have z1 := rowAt_cell HC.out 1
          have z2 := rowAt_cell HC.out 2
          have z3 := rowAt_cell HC.out 3
          simp only [List.getElem?_toArray, List.getElem?_cons_zero, List.getElem?_cons_succ] at z0 z1 z2 z3
          have f0 := rowAt_frz HC.out 0
          have g1 := rowAt_frz HC.out 1
          have g2 := rowAt_frz HC.out 2
          have f3 := rowAt_frz HC.out 3
          refine AnyE.ready (rs := [15]) (by kernel_rfl) (by simp) ?_
          refine AllE.last (o := { dst := none, op := Go.Op.store 24 (Go.Operand.tmp 7) (Go.Operand.tmp 53), type := 0, pos := "stamp.go:115", after := #[{ on := 14, ground := Go.Ground.data }, { on := 13, ground := Go.Ground.data }, { on := 13, ground := Go.Ground.chain }, { on := 0, ground := Go.Ground.phase }, { on := 1, ground := Go.Ground.phase }, { on := 2, ground := Go.Ground.phase }, { on := 3, ground := Go.Ground.phase }, { on := 4, ground := Go.Ground.phase }, { on := 5, ground := Go.Ground.phase }, { on := 6, ground := Go.Ground.phase }, { on := 7, ground := Go.Ground.phase }, { on := 8, ground := Go.Ground.phase }, { on := 9, ground := Go.Ground.phase }, { on := 10, ground := Go.Ground.phase }, { on := 11, ground := Go.Ground.phase }, { on := 12, ground := Go.Ground.phase }, { on := 13, ground := Go.Ground.phase }, { on := 14, ground := Go.Ground.phase }], guard := none }) rfl (by kernel_rfl) (fun K hK => ?_)
          clear hHeld
          go_simp
          refine hK.out _ _ ?_
          clear hK K
          try simp only [Act.put, List.setIfInBounds_toArray, List.set_cons_zero, List.set_cons_succ]
          go_wp2_with fail
          go_meet
          case rel => exact ⟨cb, rfl, rowAt_set (rowAt_set (rowAt_set (rowAt_set HC.out 0 (.int .i64 z.a)) 1 (.int .i64 z.b)) 2 (.int .i64 z.c)) 3 (.int .i64 z.d), HI.out.free HH.out (st4_grown _ cb 0 z) hcb.1 hcb.2.1 hcb.2.2, hcb⟩
      · go_simp
        obtain ⟨V, cb, hV, hb, hC, hI, hcb⟩ := I5.make HI.out (Nat.le_of_eq HT.out.symm)
        rw [← hV, ← hb]
        have HC := Lib.hid hC
        replace HI := Lib.hid hI
        clear hC hI hV hb
        refine hK.out _ _ (HHO.out _ _ HI.out) (fun hHeld => ?_)
        clear hK K
        try simp only [Act.put, List.setIfInBounds_toArray, List.set_cons_zero, List.set_cons_succ]
        refine AnyE.ready (rs := [11]) (by kernel_rfl) (by simp) ?_
        refine AllE.cons (o := { dst := some 51, op := Go.Op.call { callee := Go.Callee.value (Go.Operand.func 8), args := #[Go.Operand.tmp 40, Go.Operand.tmp 50], argTypes := #[24, 24] }, type := 24, pos := "stamp.go:115", after := #[{ on := 0, ground := Go.Ground.data }, { on := 10, ground := Go.Ground.data }, { on := 10, ground := Go.Ground.chain }], guard := none }) rfl (fun K hK => ?_) AllE.nil
        go_simp
        go_at_call 8
        refine (join_c _ _ _ _ _ _ _ _ _).mono ?_
        rintro e u1 ⟨rfl, hb⟩
        replace HC := Lib.hid (rowAt_below HC.out hb rfl)
        replace HI := Lib.hid (HI.out.past hb)
        clear hb
        unfold ck
        refine hK.out _ _ (HHO.out _ _ HI.out) (fun hHeld => ?_)
        clear hK K
        try simp only [Act.put, List.setIfInBounds_toArray, List.set_cons_zero, List.set_cons_succ]
        refine AnyE.ready (rs := [13]) (by kernel_rfl) (by simp) ?_
        refine AllE.cons (o := { dst := some 53, op := Go.Op.call { callee := Go.Callee.value (Go.Operand.func 10), args := #[Go.Operand.tmp 51, Go.Operand.tmp 52], argTypes := #[24, 3] }, type := 24, pos := "stamp.go:115", after := #[{ on := 11, ground := Go.Ground.data }, { on := 12, ground := Go.Ground.data }, { on := 11, ground := Go.Ground.chain }], guard := none }) rfl (fun K hK => ?_) AllE.nil
        go_simp
        go_at_call 10
        refine (tick_c _ _ _ _ _ _).mono ?_
        rintro e u1 ⟨rfl, hb⟩
        replace HC := Lib.hid (rowAt_below HC.out hb rfl)
        replace HI := Lib.hid (HI.out.past hb)
        clear hb
        rw [HTK.out]
        refine hK.out _ _ (HHO.out _ _ HI.out) (fun hHeld => ?_)
        clear hK K
        try simp only [Act.put, List.setIfInBounds_toArray, List.set_cons_zero, List.set_cons_succ]
        have z0 := rowAt_cell HC.out 0
        have z1 := rowAt_cell HC.out 1
        have z2 := rowAt_cell HC.out 2
        have z3 := rowAt_cell HC.out 3
        simp only [List.getElem?_toArray, List.getElem?_cons_zero, List.getElem?_cons_succ] at z0 z1 z2 z3
        have f0 := rowAt_frz HC.out 0
        have g1 := rowAt_frz HC.out 1
        have g2 := rowAt_frz HC.out 2
        have f3 := rowAt_frz HC.out 3
        refine AnyE.ready (rs := [15]) (by kernel_rfl) (by simp) ?_
        refine AllE.last (o := { dst := none, op := Go.Op.store 24 (Go.Operand.tmp 7) (Go.Operand.tmp 53), type := 0, pos := "stamp.go:115", after := #[{ on := 14, ground := Go.Ground.data }, { on := 13, ground := Go.Ground.data }, { on := 13, ground := Go.Ground.chain }, { on := 0, ground := Go.Ground.phase }, { on := 1, ground := Go.Ground.phase }, { on := 2, ground := Go.Ground.phase }, { on := 3, ground := Go.Ground.phase }, { on := 4, ground := Go.Ground.phase }, { on := 5, ground := Go.Ground.phase }, { on := 6, ground := Go.Ground.phase }, { on := 7, ground := Go.Ground.phase }, { on := 8, ground := Go.Ground.phase }, { on := 9, ground := Go.Ground.phase }, { on := 10, ground := Go.Ground.phase }, { on := 11, ground := Go.Ground.phase }, { on := 12, ground := Go.Ground.phase }, { on := 13, ground := Go.Ground.phase }, { on := 14, ground := Go.Ground.phase }], guard := none }) rfl (by kernel_rfl) (fun K hK => ?_)
        clear hHeld
        go_simp
        refine hK.out _ _ ?_
        clear hK K
        try simp only [Act.put, List.setIfInBounds_toArray, List.set_cons_zero, List.set_cons_succ]
        go_wp2_with fail
        go_meet
        case rel => exact ⟨cb, rfl, rowAt_set (rowAt_set (rowAt_set (rowAt_set HC.out 0 (.int .i64 z.a)) 1 (.int .i64 z.b)) 2 (.int .i64 z.c)) 3 (.int .i64 z.d), HI.out.free HH.out (st4_grown _ cb 0 z) hcb.1 hcb.2.1 hcb.2.2, hcb⟩
    · go_simp
      obtain ⟨V, cb, hV, hb, hC, hI, hcb⟩ := I5.make HI.out (Nat.le_of_eq HT.out.symm)
      rw [← hV, ← hb]
      have HC := Lib.hid hC
      replace HI := Lib.hid hI
      clear hC hI hV hb
      refine hK.out _ _ (HHO.out _ _ HI.out) (fun hHeld => ?_)
      clear hK K
      try simp only [Act.put, List.setIfInBounds_toArray, List.set_cons_zero, List.set_cons_succ]
      refine AnyE.ready (rs := [10]) (by kernel_rfl) (by simp) ?_
      refine AllE.cons (o := { dst := some 50, op := Go.Op.call { callee := Go.Callee.value (Go.Operand.func 34), args := #[Go.Operand.tmp 41, Go.Operand.tmp 42, Go.Operand.tmp 49], argTypes := #[50, 44, 4] }, type := 24, pos := "stamp.go:115", after := #[{ on := 1, ground := Go.Ground.data }, { on := 2, ground := Go.Ground.data }, { on := 9, ground := Go.Ground.data }], guard := none }) rfl (fun K hK => ?_) AllE.nil
      go_simp
      go_at_call 34
      refine (HJH.out _ HI.out.sm).mono ?_
      rintro e u1 ⟨rfl, hs5, hk5⟩
      replace HC := Lib.hid (rowAt_kp HC.out hk5 (fun hf => by have := HFR.out _ hf; omega))
      replace HI := Lib.hid (HI.out.turn hs5 hk5 (fun q hq => by rw [HT.out]; exact HFR.out q hq))
      clear hs5 hk5
      unfold Ck.v
      refine hK.out _ _ (HHO.out _ _ HI.out) (fun hHeld => ?_)
      clear hK K
      try simp only [Act.put, List.setIfInBounds_toArray, List.set_cons_zero, List.set_cons_succ]
      refine AnyE.ready (rs := [11]) (by kernel_rfl) (by simp) ?_
      refine AllE.cons (o := { dst := some 51, op := Go.Op.call { callee := Go.Callee.value (Go.Operand.func 8), args := #[Go.Operand.tmp 40, Go.Operand.tmp 50], argTypes := #[24, 24] }, type := 24, pos := "stamp.go:115", after := #[{ on := 0, ground := Go.Ground.data }, { on := 10, ground := Go.Ground.data }, { on := 10, ground := Go.Ground.chain }], guard := none }) rfl (fun K hK => ?_) AllE.nil
      go_simp
      go_at_call 8
      refine (join_c _ _ _ _ _ _ _ _ _).mono ?_
      rintro e u1 ⟨rfl, hb⟩
      replace HC := Lib.hid (rowAt_below HC.out hb rfl)
      replace HI := Lib.hid (HI.out.past hb)
      clear hb
      unfold ck
      refine hK.out _ _ (HHO.out _ _ HI.out) (fun hHeld => ?_)
      clear hK K
      try simp only [Act.put, List.setIfInBounds_toArray, List.set_cons_zero, List.set_cons_succ]
      refine AnyE.ready (rs := [13]) (by kernel_rfl) (by simp) ?_
      refine AllE.cons (o := { dst := some 53, op := Go.Op.call { callee := Go.Callee.value (Go.Operand.func 10), args := #[Go.Operand.tmp 51, Go.Operand.tmp 52], argTypes := #[24, 3] }, type := 24, pos := "stamp.go:115", after := #[{ on := 11, ground := Go.Ground.data }, { on := 12, ground := Go.Ground.data }, { on := 11, ground := Go.Ground.chain }], guard := none }) rfl (fun K hK => ?_) AllE.nil
      go_simp
      go_at_call 10
      refine (tick_c _ _ _ _ _ _).mono ?_
      rintro e u1 ⟨rfl, hb⟩
      replace HC := Lib.hid (rowAt_below HC.out hb rfl)
      replace HI := Lib.hid (HI.out.past hb)
      clear hb
      rw [HTK.out]
      refine hK.out _ _ (HHO.out _ _ HI.out) (fun hHeld => ?_)
      clear hK K
      try simp only [Act.put, List.setIfInBounds_toArray, List.set_cons_zero, List.set_cons_succ]
      have z0 := rowAt_cell HC.out 0
      have z1 := rowAt_cell HC.out 1
      have z2 := rowAt_cell HC.out 2
      have z3 := rowAt_cell HC.out 3
      simp only [List.getElem?_toArray, List.getElem?_cons_zero, List.getElem?_cons_succ] at z0 z1 z2 z3
      have f0 := rowAt_frz HC.out 0
      have g1 := rowAt_frz HC.out 1
      have g2 := rowAt_frz HC.out 2
      have f3 := rowAt_frz HC.out 3
      refine AnyE.ready (rs := [15]) (by kernel_rfl) (by simp) ?_
      refine AllE.last (o := { dst := none, op := Go.Op.store 24 (Go.Operand.tmp 7) (Go.Operand.tmp 53), type := 0, pos := "stamp.go:115", after := #[{ on := 14, ground := Go.Ground.data }, { on := 13, ground := Go.Ground.data }, { on := 13, ground := Go.Ground.chain }, { on := 0, ground := Go.Ground.phase }, { on := 1, ground := Go.Ground.phase }, { on := 2, ground := Go.Ground.phase }, { on := 3, ground := Go.Ground.phase }, { on := 4, ground := Go.Ground.phase }, { on := 5, ground := Go.Ground.phase }, { on := 6, ground := Go.Ground.phase }, { on := 7, ground := Go.Ground.phase }, { on := 8, ground := Go.Ground.phase }, { on := 9, ground := Go.Ground.phase }, { on := 10, ground := Go.Ground.phase }, { on := 11, ground := Go.Ground.phase }, { on := 12, ground := Go.Ground.phase }, { on := 13, ground := Go.Ground.phase }, { on := 14, ground := Go.Ground.phase }], guard := none }) rfl (by kernel_rfl) (fun K hK => ?_)
      clear hHeld
      go_simp
      refine hK.out _ _ ?_
      clear hK K
      try simp only [Act.put, List.setIfInBounds_toArray, List.set_cons_zero, List.set_cons_succ]
      go_wp2_with fail
      go_meet
      case rel => exact ⟨cb, rfl, rowAt_set (rowAt_set (rowAt_set (rowAt_set HC.out 0 (.int .i64 z.a)) 1 (.int .i64 z.b)) 2 (.int .i64 z.c)) 3 (.int .i64 z.d), HI.out.free HH.out (st4_grown _ cb 0 z) hcb.1 hcb.2.1 hcb.2.2, hcb⟩
  case rest =>
  obtain ⟨c, hs, hC, hI, hc1, hc2, hc3⟩ := hcut
  subst hs
  generalize wc = V at hC hI ⊢
  have HI : Hid (I6 w t c P F S' #[.int .i64 k, .int .i64 kd, .int .i64 ob, .int .i64 sl, .int .i64 va, .bool rf, .int .i64 f1, .int .i64 f2, .int .i64 tm] z V) := Lib.hid ⟨hI.sm, hI.kp, hI.ec, hC⟩
  have HC1 := Lib.hid hc1
  clear hC hI hc1 hc2 hc3 HU HTK
  go_wp2
  have HH6 : Hid (∀ S0 W, I6 w t c P F S0 #[.int .i64 k, .int .i64 kd, .int .i64 ob, .int .i64 sl, .int .i64 va, .bool rf, .int .i64 f1, .int .i64 f2, .int .i64 tm] z W → W.cell? ⟨P.s, 41, none⟩ = some (.slice (some ⟨P.cb, 0, none⟩) N N) ∧ W.cell? ⟨c, 0, none⟩ = some (.int .i64 z.a) ∧ W.cell? ⟨c, 1, none⟩ = some (.int .i64 z.b) ∧ W.cell? ⟨c, 2, none⟩ = some (.int .i64 z.c) ∧ W.cell? ⟨c, 3, none⟩ = some (.int .i64 z.d)) := Lib.hid (fun S0 W h => ⟨HN.out ▸ h.sm.ats.2, rowAt_cell h.cc 0, rowAt_cell h.cc 1, rowAt_cell h.cc 2, rowAt_cell h.cc 3⟩)
  refine region_e 14 (fun w' => w'.cell? ⟨P.s, 41, none⟩ = some (.slice (some ⟨P.cb, 0, none⟩) N N) ∧ w'.cell? ⟨c, 0, none⟩ = some (.int .i64 z.a) ∧ w'.cell? ⟨c, 1, none⟩ = some (.int .i64 z.b) ∧ w'.cell? ⟨c, 2, none⟩ = some (.int .i64 z.c) ∧ w'.cell? ⟨c, 3, none⟩ = some (.int .i64 z.d)) (by kernel_rfl) (HH6.out _ _ (HI.out.past (Below.refl _ _).drew)) (fun hHeld => ?_)
  replace HI : Hid (I6 w t c P F S' #[.int .i64 k, .int .i64 kd, .int .i64 ob, .int .i64 sl, .int .i64 va, .bool rf, .int .i64 f1, .int .i64 f2, .int .i64 tm] z V.drew) := Lib.hid (HI.out.past (Below.refl _ _).drew)
  generalize V.drew = V0 at hHeld HI ⊢
  refine AnyE.take (i := 0) (oi := { dst := some 54, op := Go.Op.move (Go.Operand.tmp 0), type := 50, pos := "stamp.go:116", after := #[], guard := none }) (v := ?_) rfl (by kernel_rfl) (by kernel_rfl) (by kernel_rfl) (by kernel_rfl) (fun _ _ _ h => h) (Or.inl ⟨by rfl, ?_⟩) (by assumption) ?_
  rotate_left
  · (intro w0 hSw; (try dsimp only at hSw); go_split_ands; go_simp; with_reducible rfl)
  try simp only [Act.put, List.setIfInBounds_toArray, List.set_cons_zero, List.set_cons_succ]
  refine AnyE.take (i := 1) (oi := { dst := some 55, op := Go.Op.move (Go.Operand.tmp 5), type := 3, pos := "stamp.go:116", after := #[], guard := none }) (v := ?_) rfl (by kernel_rfl) (by kernel_rfl) (by kernel_rfl) (by kernel_rfl) (fun _ _ _ h => h) (Or.inl ⟨by rfl, ?_⟩) (by assumption) ?_
  rotate_left
  · (intro w0 hSw; (try dsimp only at hSw); go_split_ands; go_simp; with_reducible rfl)
  try simp only [Act.put, List.setIfInBounds_toArray, List.set_cons_zero, List.set_cons_succ]
  refine AnyE.take (i := 2) (oi := { dst := some 56, op := Go.Op.move (Go.Operand.tmp 0), type := 50, pos := "stamp.go:116", after := #[], guard := none }) (v := ?_) rfl (by kernel_rfl) (by kernel_rfl) (by kernel_rfl) (by kernel_rfl) (fun _ _ _ h => h) (Or.inl ⟨by rfl, ?_⟩) (by assumption) ?_
  rotate_left
  · (intro w0 hSw; (try dsimp only at hSw); go_split_ands; go_simp; with_reducible rfl)
  try simp only [Act.put, List.setIfInBounds_toArray, List.set_cons_zero, List.set_cons_succ]
  refine AnyE.take (i := 3) (oi := { dst := some 57, op := Go.Op.nilCheck (Go.Operand.tmp 56), type := 0, pos := "stamp.go:116", after := #[{ on := 2, ground := Go.Ground.data }], guard := none }) (v := ?_) rfl (by kernel_rfl) (by kernel_rfl) (by kernel_rfl) (by kernel_rfl) (fun _ _ _ h => h) (Or.inl ⟨by rfl, ?_⟩) (by assumption) ?_
  rotate_left
  · (intro w0 hSw; (try dsimp only at hSw); go_split_ands; go_simp; with_reducible rfl)
  try simp only [Act.put, List.setIfInBounds_toArray, List.set_cons_zero, List.set_cons_succ]
  refine AnyE.take (i := 4) (oi := { dst := some 58, op := Go.Op.fieldAddr 59 (Go.Operand.tmp 57) 8, type := 0, pos := "stamp.go:116", after := #[{ on := 3, ground := Go.Ground.data }], guard := none }) (v := ?_) rfl (by kernel_rfl) (by kernel_rfl) (by kernel_rfl) (by kernel_rfl) (fun _ _ _ h => h) (Or.inl ⟨by rfl, ?_⟩) (by assumption) ?_
  rotate_left
  · (intro w0 hSw; (try dsimp only at hSw); go_split_ands; go_simp; with_reducible rfl)
  try simp only [Act.put, List.setIfInBounds_toArray, List.set_cons_zero, List.set_cons_succ]
  refine AnyE.take (i := 5) (oi := { dst := some 59, op := Go.Op.load 37 (Go.Operand.tmp 58), type := 37, pos := "stamp.go:116", after := #[{ on := 4, ground := Go.Ground.data }], guard := none }) (v := ?_) rfl (by kernel_rfl) (by kernel_rfl) (by kernel_rfl) (by kernel_rfl) (fun _ _ _ h => h) (Or.inl ⟨by rfl, ?_⟩) (by assumption) ?_
  rotate_left
  · (intro w0 hSw; (try dsimp only at hSw); go_split_ands; go_simp; with_reducible rfl)
  try simp only [Act.put, List.setIfInBounds_toArray, List.set_cons_zero, List.set_cons_succ]
  refine AnyE.take (i := 6) (oi := { dst := some 60, op := Go.Op.move (Go.Operand.tmp 1), type := 3, pos := "stamp.go:116", after := #[{ on := 12, ground := Go.Ground.gcOnly Go.Departure.lateStores }], guard := none }) (v := ?_) rfl (by kernel_rfl) (by kernel_rfl) (by kernel_rfl) (by kernel_rfl) (fun _ _ _ h => h) (Or.inl ⟨by rfl, ?_⟩) (by assumption) ?_
  rotate_left
  · (intro w0 hSw; (try dsimp only at hSw); go_split_ands; go_simp; with_reducible rfl)
  try simp only [Act.put, List.setIfInBounds_toArray, List.set_cons_zero, List.set_cons_succ]
  refine AnyE.take (i := 7) (oi := { dst := some 61, op := Go.Op.load 24 (Go.Operand.tmp 7), type := 24, pos := "stamp.go:116", after := #[], guard := none }) (v := ?_) rfl (by kernel_rfl) (by kernel_rfl) (by kernel_rfl) (by kernel_rfl) (fun _ _ _ h => h) (Or.inl ⟨by rfl, ?_⟩) (by assumption) ?_
  rotate_left
  · (intro w0 hSw; (try dsimp only at hSw); go_split_ands; go_simp; with_reducible rfl)
  try simp only [Act.put, List.setIfInBounds_toArray, List.set_cons_zero, List.set_cons_succ]
  refine AnyE.take (i := 8) (oi := { dst := some 62, op := Go.Op.load 24 (Go.Operand.tmp 7), type := 24, pos := "stamp.go:116", after := #[{ on := 12, ground := Go.Ground.gcOnly Go.Departure.lateStores }], guard := none }) (v := ?_) rfl (by kernel_rfl) (by kernel_rfl) (by kernel_rfl) (by kernel_rfl) (fun _ _ _ h => h) (Or.inl ⟨by rfl, ?_⟩) (by assumption) ?_
  rotate_left
  · (intro w0 hSw; (try dsimp only at hSw); go_split_ands; go_simp; with_reducible rfl)
  try simp only [Act.put, List.setIfInBounds_toArray, List.set_cons_zero, List.set_cons_succ]
  refine AnyE.take (i := 9) (oi := { dst := some 63, op := Go.Op.nilCheck (Go.Operand.tmp 54), type := 0, pos := "stamp.go:116", after := #[{ on := 0, ground := Go.Ground.data }], guard := none }) (v := ?_) rfl (by kernel_rfl) (by kernel_rfl) (by kernel_rfl) (by kernel_rfl) (fun _ _ _ h => h) (Or.inl ⟨by rfl, ?_⟩) (by assumption) ?_
  rotate_left
  · (intro w0 hSw; (try dsimp only at hSw); go_split_ands; go_simp; with_reducible rfl)
  try simp only [Act.put, List.setIfInBounds_toArray, List.set_cons_zero, List.set_cons_succ]
  refine AnyE.take (i := 10) (oi := { dst := some 64, op := Go.Op.fieldAddr 59 (Go.Operand.tmp 63) 4, type := 0, pos := "stamp.go:116", after := #[{ on := 9, ground := Go.Ground.data }], guard := none }) (v := ?_) rfl (by kernel_rfl) (by kernel_rfl) (by kernel_rfl) (by kernel_rfl) (fun _ _ _ h => h) (Or.inl ⟨by rfl, ?_⟩) (by assumption) ?_
  rotate_left
  · (intro w0 hSw; (try dsimp only at hSw); go_split_ands; go_simp; with_reducible rfl)
  try simp only [Act.put, List.setIfInBounds_toArray, List.set_cons_zero, List.set_cons_succ]
  refine AnyE.take (i := 11) (oi := { dst := some 65, op := Go.Op.indexAddr 57 (Go.Operand.tmp 64) (Go.Operand.tmp 55), type := 0, pos := "stamp.go:116", after := #[{ on := 10, ground := Go.Ground.data }, { on := 1, ground := Go.Ground.data }, { on := 0, ground := Go.Ground.phase }, { on := 1, ground := Go.Ground.phase }, { on := 2, ground := Go.Ground.textOnly Go.Departure.lateStores }, { on := 3, ground := Go.Ground.textOnly Go.Departure.lateStoresUnsure }, { on := 4, ground := Go.Ground.textOnly Go.Departure.lateStoresUnsure }, { on := 5, ground := Go.Ground.phase }, { on := 6, ground := Go.Ground.textOnly Go.Departure.lateStores }, { on := 7, ground := Go.Ground.phase }, { on := 8, ground := Go.Ground.textOnly Go.Departure.lateStores }], guard := none }) (v := ?_) rfl (by kernel_rfl) (by kernel_rfl) (by kernel_rfl) (by kernel_rfl) (fun _ _ _ h => h) (Or.inl ⟨by rfl, ?_⟩) (by assumption) ?_
  rotate_left
  · (intro w0 hSw; (try dsimp only at hSw); go_split_ands; go_simp; with_reducible rfl)
  try simp only [Act.put, List.setIfInBounds_toArray, List.set_cons_zero, List.set_cons_succ]
  refine AnyE.ready (rs := [12]) (by kernel_rfl) (by simp) ?_
  refine AllE.cons (o := { dst := none, op := Go.Op.store 24 (Go.Operand.tmp 65) (Go.Operand.tmp 61), type := 0, pos := "stamp.go:116", after := #[{ on := 11, ground := Go.Ground.data }, { on := 7, ground := Go.Ground.data }, { on := 0, ground := Go.Ground.phase }, { on := 1, ground := Go.Ground.phase }, { on := 2, ground := Go.Ground.textOnly Go.Departure.lateStores }, { on := 3, ground := Go.Ground.textOnly Go.Departure.lateStoresUnsure }, { on := 4, ground := Go.Ground.textOnly Go.Departure.lateStoresUnsure }, { on := 5, ground := Go.Ground.phase }, { on := 6, ground := Go.Ground.textOnly Go.Departure.lateStores }, { on := 7, ground := Go.Ground.phase }, { on := 8, ground := Go.Ground.textOnly Go.Departure.lateStores }], guard := none }) rfl (fun K hK => ?_) AllE.nil
  obtain ⟨n0, n1, n2, n3⟩ := HI.out.sm.nows HKL.out
  have f0x := HI.out.sm.frz (7 + k * 4)
  have f1x := HI.out.sm.frz (7 + k * 4 + 1)
  have f2x := HI.out.sm.frz (7 + k * 4 + 2)
  have f3x := HI.out.sm.frz (7 + k * 4 + 3)
  go_simp
  have HI1 : Hid (I6 w t c P F { S' with now := upd S'.now k z } #[.int .i64 k, .int .i64 kd, .int .i64 ob, .int .i64 sl, .int .i64 va, .bool rf, .int .i64 f1, .int .i64 f2, .int .i64 tm] z ((((V0.setCell ⟨P.s, 7 + k * 4, none⟩ (.int .i64 z.a)).setCell ⟨P.s, 7 + k * 4 + 1, none⟩ (.int .i64 z.b)).setCell ⟨P.s, 7 + k * 4 + 2, none⟩ (.int .i64 z.c)).setCell ⟨P.s, 7 + k * 4 + 3, none⟩ (.int .i64 z.d))) := Lib.hid (HI.out.turn (HI.out.sm.setNow HKL.out z) (st4_grown V0 P.s (7 + k * 4) z) (.inl rfl) HFR.out (Nat.le_of_eq HT.out.symm) HC1.out)
  clear n0 n1 n2 n3 f0x f1x f2x f3x HI
  refine hK.out _ _ (HH6.out _ _ HI1.out) (fun hHeld => ?_)
  clear hK K
  try simp only [Act.put, List.setIfInBounds_toArray, List.set_cons_zero, List.set_cons_succ]
  generalize ((((V0.setCell ⟨P.s, 7 + k * 4, none⟩ (.int .i64 z.a)).setCell ⟨P.s, 7 + k * 4 + 1, none⟩ (.int .i64 z.b)).setCell ⟨P.s, 7 + k * 4 + 2, none⟩ (.int .i64 z.c)).setCell ⟨P.s, 7 + k * 4 + 3, none⟩ (.int .i64 z.d)) = V1 at hHeld HI1 ⊢
  refine AnyE.take (i := 13) (oi := { dst := some 66, op := Go.Op.indexAddr 37 (Go.Operand.tmp 59) (Go.Operand.tmp 60), type := 0, pos := "stamp.go:116", after := #[{ on := 5, ground := Go.Ground.data }, { on := 6, ground := Go.Ground.data }, { on := 0, ground := Go.Ground.phase }, { on := 1, ground := Go.Ground.phase }, { on := 2, ground := Go.Ground.phase }, { on := 3, ground := Go.Ground.phase }, { on := 4, ground := Go.Ground.phase }, { on := 5, ground := Go.Ground.phase }, { on := 6, ground := Go.Ground.phase }, { on := 7, ground := Go.Ground.phase }, { on := 8, ground := Go.Ground.phase }, { on := 9, ground := Go.Ground.phase }, { on := 10, ground := Go.Ground.phase }, { on := 11, ground := Go.Ground.phase }, { on := 12, ground := Go.Ground.phase }], guard := none }) (v := ?_) rfl (by kernel_rfl) (by kernel_rfl) (by kernel_rfl) (by kernel_rfl) (fun _ _ _ h => h) (Or.inl ⟨by rfl, ?_⟩) (by assumption) ?_
  rotate_left
  · (intro w0 hSw; (try dsimp only at hSw); go_split_ands; go_simp; with_reducible rfl)
  try simp only [Act.put, List.setIfInBounds_toArray, List.set_cons_zero, List.set_cons_succ]
  refine AnyE.ready (rs := [14]) (by kernel_rfl) (by simp) ?_
  refine AllE.last (o := { dst := none, op := Go.Op.store 24 (Go.Operand.tmp 66) (Go.Operand.tmp 62), type := 0, pos := "stamp.go:116", after := #[{ on := 13, ground := Go.Ground.data }, { on := 8, ground := Go.Ground.data }, { on := 12, ground := Go.Ground.chain }, { on := 0, ground := Go.Ground.phase }, { on := 1, ground := Go.Ground.phase }, { on := 2, ground := Go.Ground.phase }, { on := 3, ground := Go.Ground.phase }, { on := 4, ground := Go.Ground.phase }, { on := 5, ground := Go.Ground.phase }, { on := 6, ground := Go.Ground.phase }, { on := 7, ground := Go.Ground.phase }, { on := 8, ground := Go.Ground.phase }, { on := 9, ground := Go.Ground.phase }, { on := 10, ground := Go.Ground.phase }, { on := 11, ground := Go.Ground.phase }, { on := 12, ground := Go.Ground.phase }], guard := none }) rfl (by kernel_rfl) (fun K hK => ?_)
  clear hHeld
  obtain ⟨n0, n1, n2, n3⟩ := HI1.out.sm.outs HIL.out
  have f0x := HI1.out.sm.cfrz (i * 4)
  have f1x := HI1.out.sm.cfrz (i * 4 + 1)
  have f2x := HI1.out.sm.cfrz (i * 4 + 2)
  have f3x := HI1.out.sm.cfrz (i * 4 + 3)
  go_simp
  have HI2 : Hid (I6 w t c P F { S' with now := upd S'.now k z, out := upd S'.out i z } #[.int .i64 k, .int .i64 kd, .int .i64 ob, .int .i64 sl, .int .i64 va, .bool rf, .int .i64 f1, .int .i64 f2, .int .i64 tm] z ((((V1.setCell ⟨P.cb, i * 4, none⟩ (.int .i64 z.a)).setCell ⟨P.cb, i * 4 + 1, none⟩ (.int .i64 z.b)).setCell ⟨P.cb, i * 4 + 2, none⟩ (.int .i64 z.c)).setCell ⟨P.cb, i * 4 + 3, none⟩ (.int .i64 z.d))) := Lib.hid (HI1.out.turn (HI1.out.sm.setOut HIL.out z) (st4_grown V1 P.cb (i * 4) z) (.inr (.inl rfl)) HFR.out (Nat.le_of_eq HT.out.symm) HC1.out)
  clear n0 n1 n2 n3 f0x f1x f2x f3x HI1
  refine hK.out _ _ ?_
  clear hK K
  try simp only [Act.put, List.setIfInBounds_toArray, List.set_cons_zero, List.set_cons_succ]
  generalize ((((V1.setCell ⟨P.cb, i * 4, none⟩ (.int .i64 z.a)).setCell ⟨P.cb, i * 4 + 1, none⟩ (.int .i64 z.b)).setCell ⟨P.cb, i * 4 + 2, none⟩ (.int .i64 z.c)).setCell ⟨P.cb, i * 4 + 3, none⟩ (.int .i64 z.d)) = V2 at HI2 ⊢
  clear HH6
  go_wp2
  obtain ⟨g, hgg⟩ : ∃ g, g = S'.gone k := ⟨_, rfl⟩
  have HG := Lib.hid hgg
  rw [← hgg] at hg
  clear hgg
  have hgw : IntKind.i64.wrap ((g : Int) + 1) = ((g + 1 : Nat) : Int) := by rw [IntKind.wrap_i64]; omega
  have HHE : Hid (V2.drew.cell? ⟨P.s, 3 + k, none⟩ = some (.int .i64 g)) := Lib.hid (by have := HI2.out.sm.goes HKL.out; rw [HG.out]; exact this)
  refine region_e 10 (fun w' => w'.cell? ⟨P.s, 3 + k, none⟩ = some (.int .i64 g)) (by kernel_rfl) HHE.out (fun hHeld => ?_)
  have HI3 : Hid (I6 w t c P F { S' with now := upd S'.now k z, out := upd S'.out i z } #[.int .i64 k, .int .i64 kd, .int .i64 ob, .int .i64 sl, .int .i64 va, .bool rf, .int .i64 f1, .int .i64 f2, .int .i64 tm] z V2.drew) := Lib.hid (HI2.out.past (Below.refl _ _).drew)
  clear HI2
  generalize V2.drew = V3 at hHeld HHE HI3 ⊢
  refine AnyE.take (i := 0) (oi := { dst := some 67, op := Go.Op.move (Go.Operand.tmp 0), type := 50, pos := "stamp.go:117", after := #[], guard := none }) (v := ?_) rfl (by kernel_rfl) (by kernel_rfl) (by kernel_rfl) (by kernel_rfl) (fun _ _ _ h => h) (Or.inl ⟨by rfl, ?_⟩) (by assumption) ?_
  rotate_left
  · (intro w0 hSw; (try dsimp only at hSw); go_split_ands; go_simp; with_reducible rfl)
  try simp only [Act.put, List.setIfInBounds_toArray, List.set_cons_zero, List.set_cons_succ]
  refine AnyE.take (i := 1) (oi := { dst := some 68, op := Go.Op.move (Go.Operand.tmp 5), type := 3, pos := "stamp.go:117", after := #[], guard := none }) (v := ?_) rfl (by kernel_rfl) (by kernel_rfl) (by kernel_rfl) (by kernel_rfl) (fun _ _ _ h => h) (Or.inl ⟨by rfl, ?_⟩) (by assumption) ?_
  rotate_left
  · (intro w0 hSw; (try dsimp only at hSw); go_split_ands; go_simp; with_reducible rfl)
  try simp only [Act.put, List.setIfInBounds_toArray, List.set_cons_zero, List.set_cons_succ]
  refine AnyE.take (i := 2) (oi := { dst := some 69, op := Go.Op.nilCheck (Go.Operand.tmp 67), type := 0, pos := "stamp.go:117", after := #[{ on := 0, ground := Go.Ground.data }], guard := none }) (v := ?_) rfl (by kernel_rfl) (by kernel_rfl) (by kernel_rfl) (by kernel_rfl) (fun _ _ _ h => h) (Or.inl ⟨by rfl, ?_⟩) (by assumption) ?_
  rotate_left
  · (intro w0 hSw; (try dsimp only at hSw); go_split_ands; go_simp; with_reducible rfl)
  try simp only [Act.put, List.setIfInBounds_toArray, List.set_cons_zero, List.set_cons_succ]
  refine AnyE.take (i := 3) (oi := { dst := some 70, op := Go.Op.fieldAddr 59 (Go.Operand.tmp 69) 3, type := 0, pos := "stamp.go:117", after := #[{ on := 2, ground := Go.Ground.data }], guard := none }) (v := ?_) rfl (by kernel_rfl) (by kernel_rfl) (by kernel_rfl) (by kernel_rfl) (fun _ _ _ h => h) (Or.inl ⟨by rfl, ?_⟩) (by assumption) ?_
  rotate_left
  · (intro w0 hSw; (try dsimp only at hSw); go_split_ands; go_simp; with_reducible rfl)
  try simp only [Act.put, List.setIfInBounds_toArray, List.set_cons_zero, List.set_cons_succ]
  refine AnyE.take (i := 4) (oi := { dst := some 71, op := Go.Op.indexAddr 24 (Go.Operand.tmp 70) (Go.Operand.tmp 68), type := 0, pos := "stamp.go:117", after := #[{ on := 3, ground := Go.Ground.data }, { on := 1, ground := Go.Ground.data }], guard := none }) (v := ?_) rfl (by kernel_rfl) (by kernel_rfl) (by kernel_rfl) (by kernel_rfl) (fun _ _ _ h => h) (Or.inl ⟨by rfl, ?_⟩) (by assumption) ?_
  rotate_left
  · (intro w0 hSw; (try dsimp only at hSw); go_split_ands; go_simp; with_reducible rfl)
  try simp only [Act.put, List.setIfInBounds_toArray, List.set_cons_zero, List.set_cons_succ]
  refine AnyE.take (i := 5) (oi := { dst := some 72, op := Go.Op.load 3 (Go.Operand.tmp 71), type := 3, pos := "stamp.go:117", after := #[{ on := 4, ground := Go.Ground.data }], guard := none }) (v := ?_) rfl (by kernel_rfl) (by kernel_rfl) (by kernel_rfl) (by kernel_rfl) (fun _ _ _ h => h) (Or.inl ⟨by rfl, ?_⟩) (by assumption) ?_
  rotate_left
  · (intro w0 hSw; (try dsimp only at hSw); go_split_ands; go_simp; with_reducible rfl)
  try simp only [Act.put, List.setIfInBounds_toArray, List.set_cons_zero, List.set_cons_succ]
  refine AnyE.take (i := 6) (oi := { dst := some 73, op := Go.Op.binOp Go.BinOp.add 3 (Go.Operand.tmp 72) (Go.Operand.const (Go.Value.int Go.IntKind.i64 1)) 3, type := 3, pos := "stamp.go:117", after := #[{ on := 5, ground := Go.Ground.data }], guard := none }) (v := ?_) rfl (by kernel_rfl) (by kernel_rfl) (by kernel_rfl) (by kernel_rfl) (fun _ _ _ h => h) (Or.inl ⟨by rfl, ?_⟩) (by assumption) ?_
  rotate_left
  · (intro w0 hSw; (try dsimp only at hSw); go_split_ands; go_simp; with_reducible rfl)
  try simp only [Act.put, List.setIfInBounds_toArray, List.set_cons_zero, List.set_cons_succ]
  refine AnyE.ready (rs := [7]) (by kernel_rfl) (by simp) ?_
  refine AllE.cons (o := { dst := some 74, op := Go.Op.nilCheck (Go.Operand.tmp 67), type := 0, pos := "stamp.go:117", after := #[{ on := 0, ground := Go.Ground.data }], guard := none }) rfl (fun K hK => ?_) AllE.nil
  go_simp
  refine hK.out _ _ HHE.out (fun hHeld => ?_)
  clear hK K
  try simp only [Act.put, List.setIfInBounds_toArray, List.set_cons_zero, List.set_cons_succ]
  refine AnyE.ready (rs := [8]) (by kernel_rfl) (by simp) ?_
  refine AllE.cons (o := { dst := some 75, op := Go.Op.fieldAddr 59 (Go.Operand.tmp 74) 3, type := 0, pos := "stamp.go:117", after := #[{ on := 7, ground := Go.Ground.data }], guard := none }) rfl (fun K hK => ?_) AllE.nil
  go_simp
  refine hK.out _ _ HHE.out (fun hHeld => ?_)
  clear hK K
  try simp only [Act.put, List.setIfInBounds_toArray, List.set_cons_zero, List.set_cons_succ]
  refine AnyE.take (i := 9) (oi := { dst := some 76, op := Go.Op.indexAddr 24 (Go.Operand.tmp 75) (Go.Operand.tmp 68), type := 0, pos := "stamp.go:117", after := #[{ on := 8, ground := Go.Ground.data }, { on := 1, ground := Go.Ground.data }, { on := 0, ground := Go.Ground.phase }, { on := 1, ground := Go.Ground.phase }, { on := 2, ground := Go.Ground.phase }, { on := 3, ground := Go.Ground.phase }, { on := 4, ground := Go.Ground.phase }, { on := 5, ground := Go.Ground.phase }, { on := 6, ground := Go.Ground.phase }], guard := none }) (v := ?_) rfl (by kernel_rfl) (by kernel_rfl) (by kernel_rfl) (by kernel_rfl) (fun _ _ _ h => h) (Or.inl ⟨by rfl, ?_⟩) (by assumption) ?_
  rotate_left
  · (intro w0 hSw; (try dsimp only at hSw); go_split_ands; go_simp; with_reducible rfl)
  try simp only [Act.put, List.setIfInBounds_toArray, List.set_cons_zero, List.set_cons_succ]
  refine AnyE.ready (rs := [10]) (by kernel_rfl) (by simp) ?_
  refine AllE.last (o := { dst := none, op := Go.Op.store 3 (Go.Operand.tmp 76) (Go.Operand.tmp 73), type := 0, pos := "stamp.go:117", after := #[{ on := 9, ground := Go.Ground.data }, { on := 6, ground := Go.Ground.data }, { on := 0, ground := Go.Ground.phase }, { on := 1, ground := Go.Ground.phase }, { on := 2, ground := Go.Ground.phase }, { on := 3, ground := Go.Ground.phase }, { on := 4, ground := Go.Ground.phase }, { on := 5, ground := Go.Ground.phase }, { on := 6, ground := Go.Ground.phase }], guard := none }) rfl (by kernel_rfl) (fun K hK => ?_)
  have f0x := HI3.out.sm.frz (3 + k)
  have f1x := HHE.out
  go_simp
  have HI4 : Hid (I6 w t c P F (S'.mark i k z) #[.int .i64 k, .int .i64 kd, .int .i64 ob, .int .i64 sl, .int .i64 va, .bool rf, .int .i64 f1, .int .i64 f2, .int .i64 tm] z (V3.setCell ⟨P.s, 3 + k, none⟩ (.int .i64 ((g : Int) + 1)))) := Lib.hid (by have h := HI3.out.turn (HI3.out.sm.setGone HKL.out (g + 1)) (grown_set V3 ⟨P.s, 3 + k, none⟩ (.int .i64 (g + 1 : Nat))) (.inl rfl) HFR.out (Nat.le_of_eq HT.out.symm) HC1.out; rw [HG.out] at h ⊢; exact h)
  clear f0x f1x HI3 HHE hHeld
  refine hK.out _ _ ?_
  clear hK K
  try simp only [Act.put, List.setIfInBounds_toArray, List.set_cons_zero, List.set_cons_succ]
  generalize (V3.setCell ⟨P.s, 3 + k, none⟩ (.int .i64 ((g : Int) + 1))) = V4 at HI4 ⊢
  clear hgw HG hg
  have HMX : Hid ((S'.mark i k z).mx < 1000) := Lib.hid hm1
  have HMW : Hid ((S'.mark i k z).mw < 1000) := Lib.hid hm2
  clear hm1 hm2
  generalize hM : S'.mark i k z = M at HI4 HMX HMW
  have HM := Lib.hid hM
  clear hM
  have HWO := Lib.hid HWF.out.1
  have HWS := Lib.hid HWF.out.2.1
  clear HWF
  have r0 : V4.cell? ⟨t, 1, none⟩ = some (.int .i64 kd) := rowAt_cell HI4.out.ec 1
  have r1 : V4.cell? ⟨t, 4, none⟩ = some (.int .i64 va) := rowAt_cell HI4.out.ec 4
  have r2 : V4.cell? ⟨P.s, 1, none⟩ = some (.slice (some ⟨P.sb, 0, none⟩) N N) := HN.out ▸ HI4.out.sm.ats.1
  have r3 := HI4.out.sm.sync HIL.out
  by_cases a4 : kd = 4
  · have q4 : (kd == 4) = true := by simp [a4]
    have HKD : Hid (M.kind E (F.sy i) z = { M with ex := fun q => if q = ob then z else M.ex q, mx := M.mx + 1 }) := Lib.hid (by rw [← HE.out]; unfold St.kind; rw [if_pos a4])
    clear a4 gi gi0 gk gk0
    clear r2 r3
    go_wp2
    have HH9 : Hid (∀ S0 W, I6 w t c P F S0 #[.int .i64 k, .int .i64 kd, .int .i64 ob, .int .i64 sl, .int .i64 va, .bool rf, .int .i64 f1, .int .i64 f2, .int .i64 tm] z W → W.cell? ⟨P.s, 39, none⟩ = some (.map (some P.xb)) ∧ W.cell? ⟨t, 2, none⟩ = some (.int .i64 ob) ∧ W.cell? ⟨c, 0, none⟩ = some (.int .i64 z.a) ∧ W.cell? ⟨c, 1, none⟩ = some (.int .i64 z.b) ∧ W.cell? ⟨c, 2, none⟩ = some (.int .i64 z.c) ∧ W.cell? ⟨c, 3, none⟩ = some (.int .i64 z.d)) := Lib.hid (fun S0 W h => ⟨h.sm.zs.1, rowAt_cell h.ec 2, rowAt_cell h.cc 0, rowAt_cell h.cc 1, rowAt_cell h.cc 2, rowAt_cell h.cc 3⟩)
    refine region_e 7 (fun w' => w'.cell? ⟨P.s, 39, none⟩ = some (.map (some P.xb)) ∧ w'.cell? ⟨t, 2, none⟩ = some (.int .i64 ob) ∧ w'.cell? ⟨c, 0, none⟩ = some (.int .i64 z.a) ∧ w'.cell? ⟨c, 1, none⟩ = some (.int .i64 z.b) ∧ w'.cell? ⟨c, 2, none⟩ = some (.int .i64 z.c) ∧ w'.cell? ⟨c, 3, none⟩ = some (.int .i64 z.d)) (by kernel_rfl) (HH9.out _ _ (HI4.out.past (Below.refl _ _).drew)) (fun hHeld => ?_)
    have HI5 : Hid (I6 w t c P F M #[.int .i64 k, .int .i64 kd, .int .i64 ob, .int .i64 sl, .int .i64 va, .bool rf, .int .i64 f1, .int .i64 f2, .int .i64 tm] z V4.drew) := Lib.hid (HI4.out.past (Below.refl _ _).drew)
    clear HI4
    generalize V4.drew = V5 at hHeld HI5 ⊢
    refine AnyE.take (i := 0) (oi := { dst := some 81, op := Go.Op.move (Go.Operand.tmp 0), type := 50, pos := "stamp.go:120", after := #[], guard := none }) (v := ?_) rfl (by kernel_rfl) (by kernel_rfl) (by kernel_rfl) (by kernel_rfl) (fun _ _ _ h => h) (Or.inl ⟨by rfl, ?_⟩) (by assumption) ?_
    rotate_left
    · (intro w0 hSw; (try dsimp only at hSw); go_split_ands; go_simp; with_reducible rfl)
    try simp only [Act.put, List.setIfInBounds_toArray, List.set_cons_zero, List.set_cons_succ]
    refine AnyE.take (i := 1) (oi := { dst := some 82, op := Go.Op.nilCheck (Go.Operand.tmp 81), type := 0, pos := "stamp.go:120", after := #[{ on := 0, ground := Go.Ground.data }], guard := none }) (v := ?_) rfl (by kernel_rfl) (by kernel_rfl) (by kernel_rfl) (by kernel_rfl) (fun _ _ _ h => h) (Or.inl ⟨by rfl, ?_⟩) (by assumption) ?_
    rotate_left
    · (intro w0 hSw; (try dsimp only at hSw); go_split_ands; go_simp; with_reducible rfl)
    try simp only [Act.put, List.setIfInBounds_toArray, List.set_cons_zero, List.set_cons_succ]
    refine AnyE.take (i := 2) (oi := { dst := some 83, op := Go.Op.fieldAddr 59 (Go.Operand.tmp 82) 6, type := 0, pos := "stamp.go:120", after := #[{ on := 1, ground := Go.Ground.data }], guard := none }) (v := ?_) rfl (by kernel_rfl) (by kernel_rfl) (by kernel_rfl) (by kernel_rfl) (fun _ _ _ h => h) (Or.inl ⟨by rfl, ?_⟩) (by assumption) ?_
    rotate_left
    · (intro w0 hSw; (try dsimp only at hSw); go_split_ands; go_simp; with_reducible rfl)
    try simp only [Act.put, List.setIfInBounds_toArray, List.set_cons_zero, List.set_cons_succ]
    refine AnyE.take (i := 3) (oi := { dst := some 84, op := Go.Op.load 55 (Go.Operand.tmp 83), type := 55, pos := "stamp.go:120", after := #[{ on := 2, ground := Go.Ground.data }], guard := none }) (v := ?_) rfl (by kernel_rfl) (by kernel_rfl) (by kernel_rfl) (by kernel_rfl) (fun _ _ _ h => h) (Or.inl ⟨by rfl, ?_⟩) (by assumption) ?_
    rotate_left
    · (intro w0 hSw; (try dsimp only at hSw); go_split_ands; go_simp; with_reducible rfl)
    try simp only [Act.put, List.setIfInBounds_toArray, List.set_cons_zero, List.set_cons_succ]
    refine AnyE.take (i := 4) (oi := { dst := some 85, op := Go.Op.fieldAddr 44 (Go.Operand.tmp 4) 2, type := 0, pos := "stamp.go:120", after := #[], guard := none }) (v := ?_) rfl (by kernel_rfl) (by kernel_rfl) (by kernel_rfl) (by kernel_rfl) (fun _ _ _ h => h) (Or.inl ⟨by rfl, ?_⟩) (by assumption) ?_
    rotate_left
    · (intro w0 hSw; (try dsimp only at hSw); go_split_ands; go_simp; with_reducible rfl)
    try simp only [Act.put, List.setIfInBounds_toArray, List.set_cons_zero, List.set_cons_succ]
    refine AnyE.take (i := 5) (oi := { dst := some 86, op := Go.Op.load 3 (Go.Operand.tmp 85), type := 3, pos := "stamp.go:120", after := #[{ on := 4, ground := Go.Ground.data }], guard := none }) (v := ?_) rfl (by kernel_rfl) (by kernel_rfl) (by kernel_rfl) (by kernel_rfl) (fun _ _ _ h => h) (Or.inl ⟨by rfl, ?_⟩) (by assumption) ?_
    rotate_left
    · (intro w0 hSw; (try dsimp only at hSw); go_split_ands; go_simp; with_reducible rfl)
    try simp only [Act.put, List.setIfInBounds_toArray, List.set_cons_zero, List.set_cons_succ]
    refine AnyE.take (i := 6) (oi := { dst := some 87, op := Go.Op.load 24 (Go.Operand.tmp 7), type := 24, pos := "stamp.go:120", after := #[], guard := none }) (v := ?_) rfl (by kernel_rfl) (by kernel_rfl) (by kernel_rfl) (by kernel_rfl) (fun _ _ _ h => h) (Or.inl ⟨by rfl, ?_⟩) (by assumption) ?_
    rotate_left
    · (intro w0 hSw; (try dsimp only at hSw); go_split_ands; go_simp; with_reducible rfl)
    try simp only [Act.put, List.setIfInBounds_toArray, List.set_cons_zero, List.set_cons_succ]
    refine AnyE.ready (rs := [7]) (by kernel_rfl) (by simp) ?_
    refine AllE.last (o := { dst := none, op := Go.Op.mapUpdate 55 (Go.Operand.tmp 84) (Go.Operand.tmp 86) (Go.Operand.tmp 87), type := 0, pos := "stamp.go:120", after := #[{ on := 3, ground := Go.Ground.data }, { on := 5, ground := Go.Ground.data }, { on := 6, ground := Go.Ground.data }, { on := 0, ground := Go.Ground.phase }, { on := 1, ground := Go.Ground.phase }, { on := 2, ground := Go.Ground.phase }, { on := 3, ground := Go.Ground.phase }, { on := 4, ground := Go.Ground.phase }, { on := 5, ground := Go.Ground.phase }, { on := 6, ground := Go.Ground.phase }], guard := none }) rfl (by kernel_rfl) (fun K hK => ?_)
    clear hHeld HH9
    obtain ⟨W6, hU, hmp, hgr⟩ := HI5.out.sm.mx.put (Nat.lt_trans HMX.out (by unfold maxLen; omega)) HWO.out z
    have HI6 : Hid (I6 w t c P F { M with ex := fun q => if q = ob then z else M.ex q, mx := M.mx + 1 } #[.int .i64 k, .int .i64 kd, .int .i64 ob, .int .i64 sl, .int .i64 va, .bool rf, .int .i64 f1, .int .i64 f2, .int .i64 tm] z W6) := Lib.hid (HI5.out.turn (HI5.out.sm.setEx hmp hgr) hgr (.inr (.inr (.inl rfl))) HFR.out (Nat.le_of_eq HT.out.symm) HC1.out)
    clear hmp hgr HI5
    unfold Ck.v at hU
    go_simp
    refine hK.out _ _ ?_
    clear hK K
    try simp only [Act.put, List.setIfInBounds_toArray, List.set_cons_zero, List.set_cons_succ]
    clear hU
    go_wp2
    go_end0
    exact ⟨rfl, by rw [HY.out, ← HZ.out, HM.out, HKD.out]; exact HI6.out.sm, HI6.out.kp⟩
  · have q4 : (kd == 4) = false := by simp [a4]
    by_cases a2 : kd = 2 ∧ F.sy i = true
    · have q2 : (kd == 2) = true := by simp [a2.1]
      rw [a2.2] at r3
      have HKD : Hid (M.kind E (F.sy i) z = { M with wr := fun q r => if q = ob ∧ r = sl then z else M.wr q r, mw := M.mw + 1 }) := Lib.hid (by rw [← HE.out]; unfold St.kind; rw [if_neg a4, if_pos a2])
      clear a4 a2
      go_wp2
      have HH9 : Hid (∀ S0 W, I6 w t c P F S0 #[.int .i64 k, .int .i64 kd, .int .i64 ob, .int .i64 sl, .int .i64 va, .bool rf, .int .i64 f1, .int .i64 f2, .int .i64 tm] z W → W.cell? ⟨P.s, 40, none⟩ = some (.map (some P.wb)) ∧ W.cell? ⟨t, 2, none⟩ = some (.int .i64 ob) ∧ W.cell? ⟨t, 3, none⟩ = some (.int .i64 sl) ∧ W.cell? ⟨c, 0, none⟩ = some (.int .i64 z.a) ∧ W.cell? ⟨c, 1, none⟩ = some (.int .i64 z.b) ∧ W.cell? ⟨c, 2, none⟩ = some (.int .i64 z.c) ∧ W.cell? ⟨c, 3, none⟩ = some (.int .i64 z.d)) := Lib.hid (fun S0 W h => ⟨h.sm.zs.2.1, rowAt_cell h.ec 2, rowAt_cell h.ec 3, rowAt_cell h.cc 0, rowAt_cell h.cc 1, rowAt_cell h.cc 2, rowAt_cell h.cc 3⟩)
      refine region_e 10 (fun w' => w'.cell? ⟨P.s, 40, none⟩ = some (.map (some P.wb)) ∧ w'.cell? ⟨t, 2, none⟩ = some (.int .i64 ob) ∧ w'.cell? ⟨t, 3, none⟩ = some (.int .i64 sl) ∧ w'.cell? ⟨c, 0, none⟩ = some (.int .i64 z.a) ∧ w'.cell? ⟨c, 1, none⟩ = some (.int .i64 z.b) ∧ w'.cell? ⟨c, 2, none⟩ = some (.int .i64 z.c) ∧ w'.cell? ⟨c, 3, none⟩ = some (.int .i64 z.d)) (by kernel_rfl) (HH9.out _ _ (HI4.out.past (Below.refl _ _).drew)) (fun hHeld => ?_)
      have HI5 : Hid (I6 w t c P F M #[.int .i64 k, .int .i64 kd, .int .i64 ob, .int .i64 sl, .int .i64 va, .bool rf, .int .i64 f1, .int .i64 f2, .int .i64 tm] z V4.drew) := Lib.hid (HI4.out.past (Below.refl _ _).drew)
      clear HI4
      generalize V4.drew = V5 at hHeld HI5 ⊢
      refine AnyE.take (i := 0) (oi := { dst := some 101, op := Go.Op.move (Go.Operand.tmp 0), type := 50, pos := "stamp.go:122", after := #[], guard := none }) (v := ?_) rfl (by kernel_rfl) (by kernel_rfl) (by kernel_rfl) (by kernel_rfl) (fun _ _ _ h => h) (Or.inl ⟨by rfl, ?_⟩) (by assumption) ?_
      rotate_left
      · (intro w0 hSw; (try dsimp only at hSw); go_split_ands; go_simp; with_reducible rfl)
      try simp only [Act.put, List.setIfInBounds_toArray, List.set_cons_zero, List.set_cons_succ]
      refine AnyE.take (i := 1) (oi := { dst := some 102, op := Go.Op.nilCheck (Go.Operand.tmp 101), type := 0, pos := "stamp.go:122", after := #[{ on := 0, ground := Go.Ground.data }], guard := none }) (v := ?_) rfl (by kernel_rfl) (by kernel_rfl) (by kernel_rfl) (by kernel_rfl) (fun _ _ _ h => h) (Or.inl ⟨by rfl, ?_⟩) (by assumption) ?_
      rotate_left
      · (intro w0 hSw; (try dsimp only at hSw); go_split_ands; go_simp; with_reducible rfl)
      try simp only [Act.put, List.setIfInBounds_toArray, List.set_cons_zero, List.set_cons_succ]
      refine AnyE.take (i := 2) (oi := { dst := some 103, op := Go.Op.fieldAddr 59 (Go.Operand.tmp 102) 7, type := 0, pos := "stamp.go:122", after := #[{ on := 1, ground := Go.Ground.data }], guard := none }) (v := ?_) rfl (by kernel_rfl) (by kernel_rfl) (by kernel_rfl) (by kernel_rfl) (fun _ _ _ h => h) (Or.inl ⟨by rfl, ?_⟩) (by assumption) ?_
      rotate_left
      · (intro w0 hSw; (try dsimp only at hSw); go_split_ands; go_simp; with_reducible rfl)
      try simp only [Act.put, List.setIfInBounds_toArray, List.set_cons_zero, List.set_cons_succ]
      refine AnyE.take (i := 3) (oi := { dst := some 104, op := Go.Op.load 56 (Go.Operand.tmp 103), type := 56, pos := "stamp.go:122", after := #[{ on := 2, ground := Go.Ground.data }], guard := none }) (v := ?_) rfl (by kernel_rfl) (by kernel_rfl) (by kernel_rfl) (by kernel_rfl) (fun _ _ _ h => h) (Or.inl ⟨by rfl, ?_⟩) (by assumption) ?_
      rotate_left
      · (intro w0 hSw; (try dsimp only at hSw); go_split_ands; go_simp; with_reducible rfl)
      try simp only [Act.put, List.setIfInBounds_toArray, List.set_cons_zero, List.set_cons_succ]
      refine AnyE.take (i := 4) (oi := { dst := some 105, op := Go.Op.fieldAddr 44 (Go.Operand.tmp 4) 2, type := 0, pos := "stamp.go:122", after := #[], guard := none }) (v := ?_) rfl (by kernel_rfl) (by kernel_rfl) (by kernel_rfl) (by kernel_rfl) (fun _ _ _ h => h) (Or.inl ⟨by rfl, ?_⟩) (by assumption) ?_
      rotate_left
      · (intro w0 hSw; (try dsimp only at hSw); go_split_ands; go_simp; with_reducible rfl)
      try simp only [Act.put, List.setIfInBounds_toArray, List.set_cons_zero, List.set_cons_succ]
      refine AnyE.take (i := 5) (oi := { dst := some 106, op := Go.Op.load 3 (Go.Operand.tmp 105), type := 3, pos := "stamp.go:122", after := #[{ on := 4, ground := Go.Ground.data }], guard := none }) (v := ?_) rfl (by kernel_rfl) (by kernel_rfl) (by kernel_rfl) (by kernel_rfl) (fun _ _ _ h => h) (Or.inl ⟨by rfl, ?_⟩) (by assumption) ?_
      rotate_left
      · (intro w0 hSw; (try dsimp only at hSw); go_split_ands; go_simp; with_reducible rfl)
      try simp only [Act.put, List.setIfInBounds_toArray, List.set_cons_zero, List.set_cons_succ]
      refine AnyE.take (i := 6) (oi := { dst := some 107, op := Go.Op.fieldAddr 44 (Go.Operand.tmp 4) 3, type := 0, pos := "stamp.go:122", after := #[], guard := none }) (v := ?_) rfl (by kernel_rfl) (by kernel_rfl) (by kernel_rfl) (by kernel_rfl) (fun _ _ _ h => h) (Or.inl ⟨by rfl, ?_⟩) (by assumption) ?_
      rotate_left
      · (intro w0 hSw; (try dsimp only at hSw); go_split_ands; go_simp; with_reducible rfl)
      try simp only [Act.put, List.setIfInBounds_toArray, List.set_cons_zero, List.set_cons_succ]
      refine AnyE.take (i := 7) (oi := { dst := some 108, op := Go.Op.load 3 (Go.Operand.tmp 107), type := 3, pos := "stamp.go:122", after := #[{ on := 6, ground := Go.Ground.data }], guard := none }) (v := ?_) rfl (by kernel_rfl) (by kernel_rfl) (by kernel_rfl) (by kernel_rfl) (fun _ _ _ h => h) (Or.inl ⟨by rfl, ?_⟩) (by assumption) ?_
      rotate_left
      · (intro w0 hSw; (try dsimp only at hSw); go_split_ands; go_simp; with_reducible rfl)
      try simp only [Act.put, List.setIfInBounds_toArray, List.set_cons_zero, List.set_cons_succ]
      refine AnyE.take (i := 8) (oi := { dst := some 109, op := Go.Op.build 70 #[(0, Go.Operand.tmp 106), (1, Go.Operand.tmp 108)], type := 70, pos := "stamp.go:122", after := #[{ on := 5, ground := Go.Ground.data }, { on := 7, ground := Go.Ground.data }], guard := none }) (v := ?_) rfl (by kernel_rfl) (by kernel_rfl) (by kernel_rfl) (by kernel_rfl) (fun _ _ _ h => h) (Or.inl ⟨by rfl, ?_⟩) (by assumption) ?_
      rotate_left
      · (intro w0 hSw; (try dsimp only at hSw); go_split_ands; go_simp; with_reducible rfl)
      try simp only [Act.put, List.setIfInBounds_toArray, List.set_cons_zero, List.set_cons_succ]
      refine AnyE.take (i := 9) (oi := { dst := some 110, op := Go.Op.load 24 (Go.Operand.tmp 7), type := 24, pos := "stamp.go:122", after := #[], guard := none }) (v := ?_) rfl (by kernel_rfl) (by kernel_rfl) (by kernel_rfl) (by kernel_rfl) (fun _ _ _ h => h) (Or.inl ⟨by rfl, ?_⟩) (by assumption) ?_
      rotate_left
      · (intro w0 hSw; (try dsimp only at hSw); go_split_ands; go_simp; with_reducible rfl)
      try simp only [Act.put, List.setIfInBounds_toArray, List.set_cons_zero, List.set_cons_succ]
      refine AnyE.ready (rs := [10]) (by kernel_rfl) (by simp) ?_
      refine AllE.last (o := { dst := none, op := Go.Op.mapUpdate 56 (Go.Operand.tmp 104) (Go.Operand.tmp 109) (Go.Operand.tmp 110), type := 0, pos := "stamp.go:122", after := #[{ on := 3, ground := Go.Ground.data }, { on := 8, ground := Go.Ground.data }, { on := 9, ground := Go.Ground.data }, { on := 0, ground := Go.Ground.phase }, { on := 1, ground := Go.Ground.phase }, { on := 2, ground := Go.Ground.phase }, { on := 3, ground := Go.Ground.phase }, { on := 4, ground := Go.Ground.phase }, { on := 5, ground := Go.Ground.phase }, { on := 6, ground := Go.Ground.phase }, { on := 7, ground := Go.Ground.phase }, { on := 8, ground := Go.Ground.phase }, { on := 9, ground := Go.Ground.phase }], guard := none }) rfl (by kernel_rfl) (fun K hK => ?_)
      clear hHeld HH9
      obtain ⟨W6, hU, hmp, hgr⟩ := HI5.out.sm.mw.put (Nat.lt_trans HMW.out (by unfold maxLen; omega)) HWO.out HWS.out z
      have HI6 : Hid (I6 w t c P F { M with wr := fun q r => if q = ob ∧ r = sl then z else M.wr q r, mw := M.mw + 1 } #[.int .i64 k, .int .i64 kd, .int .i64 ob, .int .i64 sl, .int .i64 va, .bool rf, .int .i64 f1, .int .i64 f2, .int .i64 tm] z W6) := Lib.hid (HI5.out.turn (HI5.out.sm.setWr hmp hgr) hgr (.inr (.inr (.inr rfl))) HFR.out (Nat.le_of_eq HT.out.symm) HC1.out)
      clear hmp hgr HI5
      unfold Ck.v at hU
      unfold pk at hU
      go_simp
      refine hK.out _ _ ?_
      clear hK K
      try simp only [Act.put, List.setIfInBounds_toArray, List.set_cons_zero, List.set_cons_succ]
      clear hU
      go_wp2
      go_end0
      exact ⟨rfl, by rw [HY.out, ← HZ.out, HM.out, HKD.out]; exact HI6.out.sm, HI6.out.kp⟩
    · by_cases a5 : kd = 5 ∧ 0 ≤ va ∧ va < 4
      · have q2 : (kd == 2) = false := by simp [a5.1]
        have q5 : (kd == 5) = true := by simp [a5.1]
        obtain ⟨n, hn⟩ : ∃ n : Nat, va = n := ⟨va.toNat, by omega⟩
        subst hn
        have p1 : (0 : Int) ≤ n := a5.2.1
        have p2 : (n : Int) < 4 := a5.2.2
        have HNL : Hid (n < 4) := Lib.hid (by omega)
        have HKD : Hid (M.kind E (F.sy i) z = { M with beg := upd M.beg n z }) := Lib.hid (by rw [← HE.out]; unfold St.kind; rw [if_neg a4, if_neg a2, if_pos a5]; rfl)
        clear a4 a2 a5 gk gk0 gi gi0
        go_wp2
        have HH9 : Hid (∀ S0 W, I6 w t c P F S0 #[.int .i64 k, .int .i64 kd, .int .i64 ob, .int .i64 sl, .int .i64 n, .bool rf, .int .i64 f1, .int .i64 f2, .int .i64 tm] z W → W.cell? ⟨t, 4, none⟩ = some (.int .i64 n) ∧ W.cell? ⟨c, 0, none⟩ = some (.int .i64 z.a) ∧ W.cell? ⟨c, 1, none⟩ = some (.int .i64 z.b) ∧ W.cell? ⟨c, 2, none⟩ = some (.int .i64 z.c) ∧ W.cell? ⟨c, 3, none⟩ = some (.int .i64 z.d)) := Lib.hid (fun S0 W h => ⟨rowAt_cell h.ec 4, rowAt_cell h.cc 0, rowAt_cell h.cc 1, rowAt_cell h.cc 2, rowAt_cell h.cc 3⟩)
        refine region_e 7 (fun w' => w'.cell? ⟨t, 4, none⟩ = some (.int .i64 n) ∧ w'.cell? ⟨c, 0, none⟩ = some (.int .i64 z.a) ∧ w'.cell? ⟨c, 1, none⟩ = some (.int .i64 z.b) ∧ w'.cell? ⟨c, 2, none⟩ = some (.int .i64 z.c) ∧ w'.cell? ⟨c, 3, none⟩ = some (.int .i64 z.d)) (by kernel_rfl) (HH9.out _ _ (HI4.out.past (Below.refl _ _).drew)) (fun hHeld => ?_)
        have HI5 : Hid (I6 w t c P F M #[.int .i64 k, .int .i64 kd, .int .i64 ob, .int .i64 sl, .int .i64 n, .bool rf, .int .i64 f1, .int .i64 f2, .int .i64 tm] z V4.drew) := Lib.hid (HI4.out.past (Below.refl _ _).drew)
        clear HI4
        generalize V4.drew = V5 at hHeld HI5 ⊢
        refine AnyE.take (i := 0) (oi := { dst := some 125, op := Go.Op.move (Go.Operand.tmp 0), type := 50, pos := "stamp.go:124", after := #[], guard := none }) (v := ?_) rfl (by kernel_rfl) (by kernel_rfl) (by kernel_rfl) (by kernel_rfl) (fun _ _ _ h => h) (Or.inl ⟨by rfl, ?_⟩) (by assumption) ?_
        rotate_left
        · (intro w0 hSw; (try dsimp only at hSw); go_split_ands; go_simp; with_reducible rfl)
        try simp only [Act.put, List.setIfInBounds_toArray, List.set_cons_zero, List.set_cons_succ]
        refine AnyE.take (i := 1) (oi := { dst := some 126, op := Go.Op.fieldAddr 44 (Go.Operand.tmp 4) 4, type := 0, pos := "stamp.go:124", after := #[], guard := none }) (v := ?_) rfl (by kernel_rfl) (by kernel_rfl) (by kernel_rfl) (by kernel_rfl) (fun _ _ _ h => h) (Or.inl ⟨by rfl, ?_⟩) (by assumption) ?_
        rotate_left
        · (intro w0 hSw; (try dsimp only at hSw); go_split_ands; go_simp; with_reducible rfl)
        try simp only [Act.put, List.setIfInBounds_toArray, List.set_cons_zero, List.set_cons_succ]
        refine AnyE.take (i := 2) (oi := { dst := some 127, op := Go.Op.load 2 (Go.Operand.tmp 126), type := 2, pos := "stamp.go:124", after := #[{ on := 1, ground := Go.Ground.data }], guard := none }) (v := ?_) rfl (by kernel_rfl) (by kernel_rfl) (by kernel_rfl) (by kernel_rfl) (fun _ _ _ h => h) (Or.inl ⟨by rfl, ?_⟩) (by assumption) ?_
        rotate_left
        · (intro w0 hSw; (try dsimp only at hSw); go_split_ands; go_simp; with_reducible rfl)
        try simp only [Act.put, List.setIfInBounds_toArray, List.set_cons_zero, List.set_cons_succ]
        refine AnyE.take (i := 3) (oi := { dst := some 128, op := Go.Op.load 24 (Go.Operand.tmp 7), type := 24, pos := "stamp.go:124", after := #[], guard := none }) (v := ?_) rfl (by kernel_rfl) (by kernel_rfl) (by kernel_rfl) (by kernel_rfl) (fun _ _ _ h => h) (Or.inl ⟨by rfl, ?_⟩) (by assumption) ?_
        rotate_left
        · (intro w0 hSw; (try dsimp only at hSw); go_split_ands; go_simp; with_reducible rfl)
        try simp only [Act.put, List.setIfInBounds_toArray, List.set_cons_zero, List.set_cons_succ]
        refine AnyE.ready (rs := [4]) (by kernel_rfl) (by simp) ?_
        refine AllE.cons (o := { dst := some 129, op := Go.Op.nilCheck (Go.Operand.tmp 125), type := 0, pos := "stamp.go:124", after := #[{ on := 0, ground := Go.Ground.data }], guard := none }) rfl (fun K hK => ?_) AllE.nil
        go_simp
        refine hK.out _ _ (HH9.out _ _ HI5.out) (fun hHeld => ?_)
        clear hK K
        try simp only [Act.put, List.setIfInBounds_toArray, List.set_cons_zero, List.set_cons_succ]
        refine AnyE.ready (rs := [5]) (by kernel_rfl) (by simp) ?_
        refine AllE.cons (o := { dst := some 130, op := Go.Op.fieldAddr 59 (Go.Operand.tmp 129) 5, type := 0, pos := "stamp.go:124", after := #[{ on := 4, ground := Go.Ground.data }], guard := none }) rfl (fun K hK => ?_) AllE.nil
        go_simp
        refine hK.out _ _ (HH9.out _ _ HI5.out) (fun hHeld => ?_)
        clear hK K
        try simp only [Act.put, List.setIfInBounds_toArray, List.set_cons_zero, List.set_cons_succ]
        refine AnyE.take (i := 6) (oi := { dst := some 131, op := Go.Op.indexAddr 57 (Go.Operand.tmp 130) (Go.Operand.tmp 127), type := 0, pos := "stamp.go:124", after := #[{ on := 5, ground := Go.Ground.data }, { on := 2, ground := Go.Ground.data }, { on := 0, ground := Go.Ground.phase }, { on := 1, ground := Go.Ground.phase }, { on := 2, ground := Go.Ground.phase }, { on := 3, ground := Go.Ground.phase }], guard := none }) (v := ?_) rfl (by kernel_rfl) (by kernel_rfl) (by kernel_rfl) (by kernel_rfl) (fun _ _ _ h => h) (Or.inl ⟨by rfl, ?_⟩) (by assumption) ?_
        rotate_left
        · (intro w0 hSw; (try dsimp only at hSw); go_split_ands; go_simp; with_reducible rfl)
        try simp only [Act.put, List.setIfInBounds_toArray, List.set_cons_zero, List.set_cons_succ]
        refine AnyE.ready (rs := [7]) (by kernel_rfl) (by simp) ?_
        refine AllE.last (o := { dst := none, op := Go.Op.store 24 (Go.Operand.tmp 131) (Go.Operand.tmp 128), type := 0, pos := "stamp.go:124", after := #[{ on := 6, ground := Go.Ground.data }, { on := 3, ground := Go.Ground.data }, { on := 0, ground := Go.Ground.phase }, { on := 1, ground := Go.Ground.phase }, { on := 2, ground := Go.Ground.phase }, { on := 3, ground := Go.Ground.phase }], guard := none }) rfl (by kernel_rfl) (fun K hK => ?_)
        clear hHeld HH9
        obtain ⟨n0, n1, n2, n3⟩ := HI5.out.sm.begs HNL.out
        have f0x := HI5.out.sm.frz (23 + n * 4)
        have f1x := HI5.out.sm.frz (23 + n * 4 + 1)
        have f2x := HI5.out.sm.frz (23 + n * 4 + 2)
        have f3x := HI5.out.sm.frz (23 + n * 4 + 3)
        go_simp
        have HI6 : Hid (I6 w t c P F { M with beg := upd M.beg n z } #[.int .i64 k, .int .i64 kd, .int .i64 ob, .int .i64 sl, .int .i64 n, .bool rf, .int .i64 f1, .int .i64 f2, .int .i64 tm] z ((((V5.setCell ⟨P.s, 23 + n * 4, none⟩ (.int .i64 z.a)).setCell ⟨P.s, 23 + n * 4 + 1, none⟩ (.int .i64 z.b)).setCell ⟨P.s, 23 + n * 4 + 2, none⟩ (.int .i64 z.c)).setCell ⟨P.s, 23 + n * 4 + 3, none⟩ (.int .i64 z.d))) := Lib.hid (HI5.out.turn (HI5.out.sm.setBeg HNL.out z) (st4_grown V5 P.s (23 + n * 4) z) (.inl rfl) HFR.out (Nat.le_of_eq HT.out.symm) HC1.out)
        clear n0 n1 n2 n3 f0x f1x f2x f3x HI5
        refine hK.out _ _ ?_
        clear hK K
        try simp only [Act.put, List.setIfInBounds_toArray, List.set_cons_zero, List.set_cons_succ]
        generalize ((((V5.setCell ⟨P.s, 23 + n * 4, none⟩ (.int .i64 z.a)).setCell ⟨P.s, 23 + n * 4 + 1, none⟩ (.int .i64 z.b)).setCell ⟨P.s, 23 + n * 4 + 2, none⟩ (.int .i64 z.c)).setCell ⟨P.s, 23 + n * 4 + 3, none⟩ (.int .i64 z.d)) = V6 at HI6 ⊢
        go_wp2
        go_end0
        exact ⟨rfl, by rw [HY.out, ← HZ.out, HM.out, HKD.out]; exact HI6.out.sm, HI6.out.kp⟩
      · have HKD : Hid (M.kind E (F.sy i) z = M) := Lib.hid (by rw [← HE.out]; unfold St.kind; rw [if_neg a4, if_neg a2, if_neg a5])
        have hq2 : ((kd == 2) = false) ∨ ((kd == 2) = true ∧ (kd == 5) = false ∧ F.sy i = false) := by
          by_cases b2 : kd = 2
          · refine .inr ⟨by simp [b2], by simp [b2], ?_⟩
            cases hs : F.sy i with
            | true => exact absurd ⟨b2, hs⟩ a2
            | false => rfl
          · exact .inl (by simp [b2])
        have hq5 : (kd == 5) = false ∨ ((kd == 5) = true ∧ (decide (0 ≤ va) = false ∨ (decide (0 ≤ va) = true ∧ decide (va < 4) = false))) := by
          by_cases b5 : kd = 5
          · refine .inr ⟨by simp [b5], ?_⟩
            by_cases b0 : 0 ≤ va
            · exact .inr ⟨by simp [b0], by simpa using fun h => a5 ⟨b5, b0, h⟩⟩
            · exact .inl (by simpa using b0)
          · exact .inl (by simp [b5])
        clear a4 a2 a5
        rcases hq2 with q2 | ⟨q2, q5, hsy⟩
        · rcases hq5 with q5 | ⟨q5, p1 | ⟨p1, p2⟩⟩
          · go_wp2
            go_end0
            exact ⟨rfl, by rw [HY.out, ← HZ.out, HM.out, HKD.out]; exact HI4.out.sm, HI4.out.kp⟩
          · go_wp2
            go_end0
            exact ⟨rfl, by rw [HY.out, ← HZ.out, HM.out, HKD.out]; exact HI4.out.sm, HI4.out.kp⟩
          · go_wp2
            go_end0
            exact ⟨rfl, by rw [HY.out, ← HZ.out, HM.out, HKD.out]; exact HI4.out.sm, HI4.out.kp⟩
        · rw [hsy] at r3
          clear hsy hq5
          go_wp2
          go_end0
          exact ⟨rfl, by rw [HY.out, ← HZ.out, HM.out, HKD.out]; exact HI4.out.sm, HI4.out.kp⟩
end Go.Proofs.Ytnmgafaebggeiaa.St
