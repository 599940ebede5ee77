import Derived.StillTailTactics
import Derived.Deep.CutRange
import Derived.Laws.BitsLemmas
import Derived.IntWalk
import Derived.Laws.BitsAllLaws
import Derived.Deep.DrawnRows
import Derived.Test.YtpiafgmncfibmaaXj
import Derived.Test.YtpiafgmncfibmaaRows
import Derived.WalkKit
import Derived.ProofKit
import Derived.OpenShut
import Derived.Deep.QuietTactic
import Derived.BigQuiet
import Derived.Outline
import Derived.WalkSmall
import Derived.WalkLawsBesides
import Derived.WalkSpells
import Derived.BigGuardPart
import Derived.RegionTactic
import Derived.Deep.RegionHeld3
import Derived.Lib.Hide
import Derived.Deep.MidRow
import Derived.Below
import Derived.Deep.RegionWith
import Derived.Deep.OwnRows
import Derived.Deep.AppendLies
import Derived.Deep.RegionLaw
import Derived.Deep.CutBlock
import Derived.Deep.DeepCutAuto
namespace Go.Proofs.Ytpiafgmncfibmaa.Vf
open Go.ChangeShapes Go.WideShapes Go.ChangeAt Go.RowKit
set_option linter.unusedVariables false

structure ThB (K : Fk) (F : Fl) (X : Fx) (k t9 : Nat) (w V : World) : Prop where
  f : StC K V F X
  r : Fr K w V
  p : Bx V w.heap.size #[.slice K.A.pa K.P.np K.A.pc, .slice K.A.ca K.P.nc K.A.cc, .slice K.A.ma K.P.nm K.A.mc] 26
  x : Bx V t9 #[.int .i64 (K.D k : Nat), .int .i64 (opA K.D k), .int .i64 (opB K.D k), .int .i64 (szK (kindO (K.D k)) : Nat)] 141
  g : w.heap.size < t9
theorem ThB.below {K : Fk} {F : Fl} {X : Fx} {k t9 : Nat} {w V V' : World} (h : ThB K F X k t9 w V) (hb : Below V.heap.size V V') : ThB K F X k t9 w V' := ⟨h.f.below hb, h.r.trans (Fr.below hb), h.p.below hb, h.x.below hb, h.g⟩
theorem ThB.make {K : Fk} {F : Fl} {X : Fx} {k t9 : Nat} {w W : World} (h : ThB K F X k t9 w W) : ∃ V t6, V = W.alloc (.cells #[.slice none 0 0, .int .i64 0] 72) ∧ t6 = W.heap.size ∧ Bx V t6 #[.slice none 0 0, .int .i64 0] 72 ∧ K.hi ≤ t6 ∧ w.heap.size < t6 ∧ Below W.heap.size W V :=
  ⟨_, _, rfl, rfl, Bx.new _ _ _, h.f.hi, Nat.lt_trans h.g h.x.lt, (Below.refl _ _).alloc (Nat.le_refl _) _⟩
def ThQ (K : Fk) (F : Fl) (X : Fx) (k t9 : Nat) (w : World) (t6 : Nat) (ra : Option Addr) (rc : Nat) (sh : Sh) (V : World) : Prop :=
  ThB K F X k t9 w V ∧ Bx V t6 #[.slice ra sh.l.length rc, .int .i64 sh.h] 72 ∧ K.hi ≤ t6 ∧ w.heap.size < t6 ∧ (effE K.P K.m (K.D k) (opA K.D k) (opB K.D k) (F.S k) = 0 → sh = effS K.P K.m (K.D k) (opA K.D k) (opB K.D k) (F.S k) ∧ Ints V ra sh.l ∧ sh.l.length ≤ rc ∧ ∀ p, ra = some p → K.hi ≤ p.block)
def ThrP (K : Fk) (w : World) (F : Fl) (k : Nat) (e : Ending) (w' : World) : Prop := ∃ X', e = .returned (.int .i64 (stE K.P K.m K.n K.D (K.P.sk K.m) F k)) ∧ StC K w' (stF K.P K.m K.n K.D (K.P.sk K.m) F k) X' ∧ Fr K w w'
theorem Fk.code {K : Fk} (hK : FkOk K) : CodeIn K.w0 (K.A.cda K.m) K.n (K.A.cdc K.m) K.D := ⟨Nat.le_trans hK.n1 (by decide), hK.cap.d K.m hK.m, fun i hi => hK.fit.cd K.m i hK.m hi, hK.at'.d K.m hK.m⟩
set_option maxRecDepth 100000 in
set_option maxHeartbeats 8000000 in
theorem thru_c (K : Fk) (hK : FkOk K) (hT : Tys K.P) (hRt : ∀ i, i < K.P.nm → K.P.rt i ≠ -1) (hpl : K.P.pn K.m + K.P.ln K.m ≤ 40) (O : Nat → Bool) (F : Fl) (X : Fx) (k : Nat) (w : World) (h : StC K w F X) (hR : Rdy K O) (hk : k < K.n) (hO : O k = true) : Calls Try.prog 92 #[.pointer (some ⟨K.f, 0, none⟩), .agg (K.P.cells K.A), .int .i64 K.m, .int .i64 k] w (ThrP K w F k) := by
  have HF := Lib.hid h
  have HK := Lib.hid hK
  have n1 := hK.n1
  obtain ⟨hrd, hnm, hjm⟩ := hR k hk hO
  have hD41 : K.D k < 41 := by unfold rdE at hrd; split at hrd <;> omega
  have HJm := Lib.hid hjm
  have HNx : Hid (k + szK (kindO (K.D k)) ≤ K.n) := Lib.hid (by unfold rdE at hrd; split at hrd; omega; split at hrd <;> omega)
  have hki : (k : Int) < K.n := by omega
  have hmm : (K.m : Int) < K.P.nm := by have := hK.m; omega
  have HEf : Hid (∀ V t9, ThB K F X k t9 w V → Calls Try.prog 114 #[.agg #[.slice K.A.pa K.P.np K.A.pc, .slice K.A.ca K.P.nc K.A.cc, .slice K.A.ma K.P.nm K.A.mc], .int .i64 K.m, .agg #[.int .i64 (K.D k : Nat), .int .i64 (opA K.D k), .int .i64 (opB K.D k), .int .i64 (szK (kindO (K.D k)) : Nat)], .agg #[.slice (X.a k) (F.S k).l.length (X.c k), .int .i64 (F.S k).h]] V (EffQ K.P K.m (K.D k) (opA K.D k) (opB K.D k) (F.S k) V)) := Lib.hid fun V t9 hV => (effectx_c K.P K.A K.m (K.D k) (opA K.D k) (opB K.D k) _ (F.S k) (X.a k) (X.c k) V (hK.at'.kept (Kept.of hV.f.b)) hK.fit hK.cap hK.m hpl hT hRt hnm hD41 (hV.f.ti k hk) (hV.f.tc k hk) (by have := hV.f.tl k hk; omega) (hV.f.t0 k hk) (hV.f.t1 k hk)).mono fun e w' he => EffR.q he
  have HRd : Hid (∀ V, Below K.w0.heap.size K.w0 V → Calls Try.prog 89 #[.slice (K.A.cda K.m) K.n (K.A.cdc K.m), .int .i64 k] V fun e w' => e = .returned (.tuple #[.agg #[.int .i64 (K.D k : Nat), .int .i64 (opA K.D k), .int .i64 (opB K.D k), .int .i64 (szK (kindO (K.D k)) : Nat)], .int .i64 0]) ∧ Below V.heap.size V w') := Lib.hid fun V hb => by
    have h1 := rread_c (K.A.cda K.m) K.n (K.A.cdc K.m) K.D k V ((Fk.code hK).kept (Kept.of hb)) hk
    have h2 : rdC K.n K.D k = #[.int .i64 (K.D k : Nat), .int .i64 (opA K.D k), .int .i64 (opB K.D k), .int .i64 (szK (kindO (K.D k)) : Nat)] := by unfold rdC; rw [hrd]; rfl
    rw [h2, hrd] at h1
    exact h1
  obtain ⟨bm, om, hma, hbm, hcm⟩ := hK.at'.m.resolve_left (by have := hK.m; omega)
  have HM4 : Hid (∀ V, Below K.w0.heap.size K.w0 V → V.cell? ⟨bm, om + K.m * 5 + 4, none⟩ = some (.slice (K.A.cda K.m) K.n (K.A.cdc K.m)) ∧ V.cell? ⟨bm, om + K.m * 5 + 3, none⟩ = some (.int .i64 (K.P.sk K.m))) := Lib.hid fun V hb => ⟨(hb.cell (p := ⟨bm, om + K.m * 5 + 4, none⟩) hbm).trans (hcm K.m hK.m).2.2.2.2, (hb.cell (p := ⟨bm, om + K.m * 5 + 3, none⟩) hbm).trans (hcm K.m hK.m).2.2.2.1⟩
  have HMa := Lib.hid hma
  clear hcm hma hR hrd hnm hjm
  show Calls Try.prog 92 #[.pointer (some ⟨K.f, 0, none⟩), .agg #[.slice K.A.pa K.P.np K.A.pc, .slice K.A.ca K.P.nc K.A.cc, .slice K.A.ma K.P.nm K.A.mc], .int .i64 K.m, .int .i64 k] w _
  obtain ⟨W1, hW1⟩ : ∃ V, V = w.alloc (.cells #[.slice K.A.pa K.P.np K.A.pc, .slice K.A.ca K.P.nc K.A.cc, .slice K.A.ma K.P.nm K.A.mc] 26) := ⟨_, rfl⟩
  have HW1 := Lib.hid hW1
  have HB1 : Hid (Bx W1 w.heap.size #[.slice K.A.pa K.P.np K.A.pc, .slice K.A.ca K.P.nc K.A.cc, .slice K.A.ma K.P.nm K.A.mc] 26 ∧ Below w.heap.size w W1 ∧ Below K.w0.heap.size K.w0 W1) := Lib.hid (by
    have hb : Below w.heap.size w W1 := by rw [hW1]; exact (Below.refl _ _).alloc (Nat.le_refl _) _
    exact ⟨by rw [hW1]; exact Bx.new _ _ _, hb, h.b.trans (hb.mono h.b.size)⟩)
  clear hW1 hO h hK
  have p2 : W1.cell? ⟨w.heap.size, 2, none⟩ = some (.slice (some ⟨bm, om, none⟩) K.P.nm K.A.mc) := (HB1.out.1.cell 2).trans (by rw [← HMa.out]; rfl)
  have m4 := (HM4.out W1 HB1.out.2.2).1
  have HHO : Hid (∀ V t9, ThB K F X k t9 w V → V.cell? ⟨w.heap.size, 0, none⟩ = some (.slice K.A.pa K.P.np K.A.pc) ∧ V.cell? ⟨w.heap.size, 1, none⟩ = some (.slice K.A.ca K.P.nc K.A.cc) ∧ V.cell? ⟨w.heap.size, 2, none⟩ = some (.slice K.A.ma K.P.nm K.A.mc) ∧ V.cell? ⟨K.f, 0, none⟩ = some (.slice (some ⟨K.rs, 0, none⟩) K.n K.n) ∧ V.cell? ⟨t9, 0, none⟩ = some (.int .i64 (K.D k : Nat)) ∧ V.cell? ⟨t9, 1, none⟩ = some (.int .i64 (opA K.D k)) ∧ V.cell? ⟨t9, 2, none⟩ = some (.int .i64 (opB K.D k)) ∧ V.cell? ⟨t9, 3, none⟩ = some (.int .i64 (szK (kindO (K.D k)) : Nat)) ∧ V.cell? ⟨K.rs, k * 2, none⟩ = some (.slice (X.a k) (F.S k).l.length (X.c k)) ∧ V.cell? ⟨K.rs, k * 2 + 1, none⟩ = some (.int .i64 (F.S k).h)) := Lib.hid fun V t9 h => ⟨h.p.cell 0, h.p.cell 1, h.p.cell 2, h.f.f.cell 0, h.x.cell 0, h.x.cell 1, h.x.cell 2, h.x.cell 3, h.f.s.cell (j := 0) hk (by omega), h.f.s.cell (j := 1) hk (by omega)⟩
  obtain ⟨er, her⟩ : ∃ er, effE K.P K.m (K.D k) (opA K.D k) (opB K.D k) (F.S k) = er := ⟨_, rfl⟩
  have HEr := Lib.hid her
  clear her
  go_enter Try.func92, Try.ntmps92
  go_upto_region 1 with fail
  rw [← HW1.out]
  go_upto_region 2 with (go_at_call 89; refine (HRd.out _ HB1.out.2.2).mono ?_; rintro e Wr ⟨rfl, hbr⟩)
  obtain ⟨W2, hW2⟩ : ∃ q, q = Wr.alloc (.cells #[.int .i64 (K.D k : Nat), .int .i64 (opA K.D k), .int .i64 (opB K.D k), .int .i64 (szK (kindO (K.D k)) : Nat)] 141) := ⟨_, rfl⟩
  obtain ⟨t9, ht9⟩ : ∃ q, q = Wr.heap.size := ⟨_, rfl⟩
  have HB : Hid (ThB K F X k t9 w W2) := Lib.hid (by
    have hb2 : Below Wr.heap.size Wr W2 := by rw [hW2]; exact (Below.refl _ _).alloc (Nat.le_refl _) _
    have hb3 : Below w.heap.size w Wr := HB1.out.2.1.trans (hbr.mono HB1.out.2.1.size)
    have hp := HB1.out.1.below hbr
    exact ⟨HF.out.below (hb3.trans (hb2.mono hb3.size)), Fr.below (hb3.trans (hb2.mono hb3.size)), hp.below hb2, by rw [hW2, ht9]; exact Bx.new _ _ _, by rw [ht9]; exact hp.lt⟩)
  rw [← hW2, ← ht9]
  clear hW2 ht9 hbr p2 m4
  go_cut [11, 12] from 24 to 37 (fun s11 s12 wx => ∃ t6 ra rc sh, s11 = .pointer (some ⟨t6, 0, none⟩) ∧ s12 = .int .i64 er ∧ ThQ K F X k t9 w t6 ra rc sh wx)
  case first =>
    have HBd : Hid (ThB K F X k t9 w W2.drew) := Lib.hid (HB.out.below (Below.refl _ _).drew)
    clear HB
    refine region_e 16 (fun w' => w'.cell? ⟨w.heap.size, 0, none⟩ = some (.slice K.A.pa K.P.np K.A.pc) ∧ w'.cell? ⟨w.heap.size, 1, none⟩ = some (.slice K.A.ca K.P.nc K.A.cc) ∧ w'.cell? ⟨w.heap.size, 2, none⟩ = some (.slice K.A.ma K.P.nm K.A.mc) ∧ w'.cell? ⟨K.f, 0, none⟩ = some (.slice (some ⟨K.rs, 0, none⟩) K.n K.n) ∧ w'.cell? ⟨t9, 0, none⟩ = some (.int .i64 (K.D k : Nat)) ∧ w'.cell? ⟨t9, 1, none⟩ = some (.int .i64 (opA K.D k)) ∧ w'.cell? ⟨t9, 2, none⟩ = some (.int .i64 (opB K.D k)) ∧ w'.cell? ⟨t9, 3, none⟩ = some (.int .i64 (szK (kindO (K.D k)) : Nat)) ∧ w'.cell? ⟨K.rs, k * 2, none⟩ = some (.slice (X.a k) (F.S k).l.length (X.c k)) ∧ w'.cell? ⟨K.rs, k * 2 + 1, none⟩ = some (.int .i64 (F.S k).h)) (by kernel_rfl) (HHO.out _ _ HBd.out) (fun hHeld => ?_)
    generalize W2.drew = u0 at hHeld HBd ⊢
    refine AnyE.take2 (i := 0) [] (oi := { dst := some 25, op := Go.Op.load 26 (Go.Operand.tmp 5), type := 26, pos := "ref.go:212", after := #[], guard := none }) (v := ?_) rfl (by kernel_rfl) (by kernel_rfl) (by kernel_rfl) (by kernel_rfl) (fun _ _ _ h => h) (Or.inl ⟨by rfl, ?_⟩) (by assumption) ?_
    rotate_left
    · (intro w0 hSw; (try dsimp only at hSw); go_split_ands; go_simp; with_reducible rfl)
    try simp only [Act.put, List.setIfInBounds_toArray, List.set_cons_zero, List.set_cons_succ]
    refine AnyE.take2 (i := 1) [] (oi := { dst := some 26, op := Go.Op.move (Go.Operand.tmp 2), type := 3, pos := "ref.go:212", after := #[], guard := none }) (v := ?_) rfl (by kernel_rfl) (by kernel_rfl) (by kernel_rfl) (by kernel_rfl) (fun _ _ _ h => h) (Or.inl ⟨by rfl, ?_⟩) (by assumption) ?_
    rotate_left
    · (intro w0 hSw; (try dsimp only at hSw); go_split_ands; go_simp; with_reducible rfl)
    try simp only [Act.put, List.setIfInBounds_toArray, List.set_cons_zero, List.set_cons_succ]
    refine AnyE.take2 (i := 2) [] (oi := { dst := some 27, op := Go.Op.load 141 (Go.Operand.tmp 9), type := 141, pos := "ref.go:212", after := #[], guard := none }) (v := ?_) rfl (by kernel_rfl) (by kernel_rfl) (by kernel_rfl) (by kernel_rfl) (fun _ _ _ h => h) (Or.inl ⟨by rfl, ?_⟩) (by assumption) ?_
    rotate_left
    · (intro w0 hSw; (try dsimp only at hSw); go_split_ands; go_simp; with_reducible rfl)
    try simp only [Act.put, List.setIfInBounds_toArray, List.set_cons_zero, List.set_cons_succ]
    refine AnyE.take2 (i := 3) [] (oi := { dst := some 28, op := Go.Op.move (Go.Operand.tmp 0), type := 115, pos := "ref.go:212", after := #[], guard := none }) (v := ?_) rfl (by kernel_rfl) (by kernel_rfl) (by kernel_rfl) (by kernel_rfl) (fun _ _ _ h => h) (Or.inl ⟨by rfl, ?_⟩) (by assumption) ?_
    rotate_left
    · (intro w0 hSw; (try dsimp only at hSw); go_split_ands; go_simp; with_reducible rfl)
    try simp only [Act.put, List.setIfInBounds_toArray, List.set_cons_zero, List.set_cons_succ]
    refine AnyE.take2 (i := 4) [] (oi := { dst := some 29, op := Go.Op.nilCheck (Go.Operand.tmp 28), type := 0, pos := "ref.go:212", after := #[{ on := 3, ground := Go.Ground.data }], guard := none }) (v := ?_) rfl (by kernel_rfl) (by kernel_rfl) (by kernel_rfl) (by kernel_rfl) (fun _ _ _ h => h) (Or.inl ⟨by rfl, ?_⟩) (by assumption) ?_
    rotate_left
    · (intro w0 hSw; (try dsimp only at hSw); go_split_ands; go_simp; with_reducible rfl)
    try simp only [Act.put, List.setIfInBounds_toArray, List.set_cons_zero, List.set_cons_succ]
    refine AnyE.take2 (i := 5) [] (oi := { dst := some 30, op := Go.Op.fieldAddr 122 (Go.Operand.tmp 29) 0, type := 0, pos := "ref.go:212", after := #[{ on := 4, ground := Go.Ground.data }], guard := none }) (v := ?_) rfl (by kernel_rfl) (by kernel_rfl) (by kernel_rfl) (by kernel_rfl) (fun _ _ _ h => h) (Or.inl ⟨by rfl, ?_⟩) (by assumption) ?_
    rotate_left
    · (intro w0 hSw; (try dsimp only at hSw); go_split_ands; go_simp; with_reducible rfl)
    try simp only [Act.put, List.setIfInBounds_toArray, List.set_cons_zero, List.set_cons_succ]
    refine AnyE.take2 (i := 6) [] (oi := { dst := some 31, op := Go.Op.load 66 (Go.Operand.tmp 30), type := 66, pos := "ref.go:212", after := #[{ on := 5, ground := Go.Ground.data }], guard := none }) (v := ?_) rfl (by kernel_rfl) (by kernel_rfl) (by kernel_rfl) (by kernel_rfl) (fun _ _ _ h => h) (Or.inl ⟨by rfl, ?_⟩) (by assumption) ?_
    rotate_left
    · (intro w0 hSw; (try dsimp only at hSw); go_split_ands; go_simp; with_reducible rfl)
    try simp only [Act.put, List.setIfInBounds_toArray, List.set_cons_zero, List.set_cons_succ]
    refine AnyE.take2 (i := 7) [] (oi := { dst := some 32, op := Go.Op.move (Go.Operand.tmp 3), type := 3, pos := "ref.go:212", after := #[], guard := none }) (v := ?_) rfl (by kernel_rfl) (by kernel_rfl) (by kernel_rfl) (by kernel_rfl) (fun _ _ _ h => h) (Or.inl ⟨by rfl, ?_⟩) (by assumption) ?_
    rotate_left
    · (intro w0 hSw; (try dsimp only at hSw); go_split_ands; go_simp; with_reducible rfl)
    try simp only [Act.put, List.setIfInBounds_toArray, List.set_cons_zero, List.set_cons_succ]
    refine AnyE.take2 (i := 8) [] (oi := { dst := some 33, op := Go.Op.indexAddr 66 (Go.Operand.tmp 31) (Go.Operand.tmp 32), type := 0, pos := "ref.go:212", after := #[{ on := 6, ground := Go.Ground.data }, { on := 7, ground := Go.Ground.data }], guard := none }) (v := ?_) rfl (by kernel_rfl) (by kernel_rfl) (by kernel_rfl) (by kernel_rfl) (fun _ _ _ h => h) (Or.inl ⟨by rfl, ?_⟩) (by assumption) ?_
    rotate_left
    · (intro w0 hSw; (try dsimp only at hSw); go_split_ands; go_simp; with_reducible rfl)
    try simp only [Act.put, List.setIfInBounds_toArray, List.set_cons_zero, List.set_cons_succ]
    refine AnyE.take2 (i := 9) [] (oi := { dst := some 34, op := Go.Op.load 72 (Go.Operand.tmp 33), type := 72, pos := "ref.go:212", after := #[{ on := 8, ground := Go.Ground.data }], guard := none }) (v := ?_) rfl (by kernel_rfl) (by kernel_rfl) (by kernel_rfl) (by kernel_rfl) (fun _ _ _ h => h) (Or.inl ⟨by rfl, ?_⟩) (by assumption) ?_
    rotate_left
    · (intro w0 hSw; (try dsimp only at hSw); go_split_ands; go_simp; with_reducible rfl)
    try simp only [Act.put, List.setIfInBounds_toArray, List.set_cons_zero, List.set_cons_succ]
    refine AnyE.ready (rs := [10, 14]) (by kernel_rfl) (by simp) ?_
    refine AllE.cons (o := { dst := some 35, op := Go.Op.call { callee := Go.Callee.value (Go.Operand.func 114), args := #[Go.Operand.tmp 25, Go.Operand.tmp 26, Go.Operand.tmp 27, Go.Operand.tmp 34], argTypes := #[26, 3, 141, 72] }, type := 163, pos := "ref.go:212", after := #[{ on := 0, ground := Go.Ground.data }, { on := 1, ground := Go.Ground.data }, { on := 2, ground := Go.Ground.data }, { on := 9, ground := Go.Ground.data }], guard := none }) rfl (fun KK hKK => ?_) (AllE.cons (o := { dst := some 11, op := Go.Op.alloc 72, type := 0, pos := "ref.go:212", after := #[], guard := none }) rfl (fun KK hKK => ?_) AllE.nil)
    · go_simp
      go_at_call 114
      refine (HEf.out _ _ HBd.out).mono ?_
      rintro e u1 ⟨ra, rc, sh, rfl, hb5, he5⟩
      rw [HEr.out] at he5 ⊢
      have HE5 := Lib.hid he5
      have HB5 := Lib.hid hb5
      clear he5 hb5
      have HBu := Lib.hid (HBd.out.below HB5.out)
      have HHi := Lib.hid HBd.out.f.hi
      refine hKK.out _ _ (HHO.out _ _ HBu.out) (fun hHeld => ?_)
      clear hKK KK
      try simp only [Act.put, List.setIfInBounds_toArray, List.set_cons_zero, List.set_cons_succ]
      refine AnyE.take2 (i := 11) [] (oi := { dst := some 24, op := Go.Op.move (Go.Operand.tmp 35), type := 163, pos := "ref.go:212", after := #[{ on := 10, ground := Go.Ground.data }], guard := none }) (v := ?_) rfl (by kernel_rfl) (by kernel_rfl) (by kernel_rfl) (by kernel_rfl) (fun _ _ _ h => h) (Or.inl ⟨by rfl, ?_⟩) (by assumption) ?_
      rotate_left
      · (intro w0 hSw; (try dsimp only at hSw); go_split_ands; go_simp; with_reducible rfl)
      try simp only [Act.put, List.setIfInBounds_toArray, List.set_cons_zero, List.set_cons_succ]
      refine AnyE.take2 (i := 12) [] (oi := { dst := some 36, op := Go.Op.extract (Go.Operand.tmp 24) 0, type := 72, pos := "ref.go:212", after := #[{ on := 11, ground := Go.Ground.data }], guard := none }) (v := ?_) rfl (by kernel_rfl) (by kernel_rfl) (by kernel_rfl) (by kernel_rfl) (fun _ _ _ h => h) (Or.inl ⟨by rfl, ?_⟩) (by assumption) ?_
      rotate_left
      · (intro w0 hSw; (try dsimp only at hSw); go_split_ands; go_simp; with_reducible rfl)
      try simp only [Act.put, List.setIfInBounds_toArray, List.set_cons_zero, List.set_cons_succ]
      refine AnyE.take2 (i := 13) [] (oi := { dst := some 37, op := Go.Op.extract (Go.Operand.tmp 24) 1, type := 3, pos := "ref.go:212", after := #[{ on := 11, ground := Go.Ground.data }, { on := 15, ground := Go.Ground.gcOnly Go.Departure.lateStores }], guard := none }) (v := ?_) rfl (by kernel_rfl) (by kernel_rfl) (by kernel_rfl) (by kernel_rfl) (fun _ _ _ h => h) (Or.inl ⟨by rfl, ?_⟩) (by assumption) ?_
      rotate_left
      · (intro w0 hSw; (try dsimp only at hSw); go_split_ands; go_simp; with_reducible rfl)
      try simp only [Act.put, List.setIfInBounds_toArray, List.set_cons_zero, List.set_cons_succ]
      refine AnyE.ready (rs := [14]) (by kernel_rfl) (by simp) ?_
      refine AllE.cons (o := { dst := some 11, op := Go.Op.alloc 72, type := 0, pos := "ref.go:212", after := #[], guard := none }) rfl (fun KK hKK => ?_) AllE.nil
      go_simp
      obtain ⟨V, t6, hV, ht, hC, hb1, hb2, hb3⟩ := ThB.make HBu.out
      rw [← hV, ← ht]
      have HC := Lib.hid (And.intro hC (And.intro hb1 hb2))
      have HV := Lib.hid (And.intro hb3 ht)
      clear hC hV hb1 hb2 hb3 ht
      have HCu := Lib.hid HC.out.1
      refine hKK.out _ _ (HHO.out _ _ (HBu.out.below HV.out.1)) (fun hHeld => ?_)
      clear hKK KK
      try simp only [Act.put, List.setIfInBounds_toArray, List.set_cons_zero, List.set_cons_succ]
      have z0 : V.cell? ⟨t6, 0, none⟩ = some (.slice none 0 0) := HCu.out.cell 0
      have z1 : V.cell? ⟨t6, 1, none⟩ = some (.int .i64 0) := HCu.out.cell 1
      have y0 : V.frozen? ⟨t6, 0, none⟩ = false := HCu.out.frz 0
      have y1 : V.frozen? ⟨t6, 1, none⟩ = false := HCu.out.frz 1
      refine AnyE.ready (rs := [15]) (by kernel_rfl) (by simp) ?_
      refine AllE.cons (o := { dst := none, op := Go.Op.store 72 (Go.Operand.tmp 11) (Go.Operand.tmp 36), type := 0, pos := "ref.go:212", after := #[{ on := 14, ground := Go.Ground.data }, { on := 12, ground := Go.Ground.data }, { on := 10, ground := Go.Ground.chain }, { on := 0, ground := Go.Ground.phase }, { on := 1, ground := Go.Ground.phase }, { on := 2, ground := Go.Ground.phase }, { on := 3, ground := Go.Ground.phase }, { on := 4, ground := Go.Ground.phase }, { on := 5, ground := Go.Ground.phase }, { on := 6, ground := Go.Ground.phase }, { on := 7, ground := Go.Ground.phase }, { on := 8, ground := Go.Ground.phase }, { on := 9, ground := Go.Ground.phase }, { on := 10, ground := Go.Ground.phase }, { on := 11, ground := Go.Ground.phase }, { on := 12, ground := Go.Ground.phase }, { on := 13, ground := Go.Ground.textOnly Go.Departure.lateStores }, { on := 14, ground := Go.Ground.phase }], guard := none }) rfl (fun KK hKK => ?_) AllE.nil
      go_simp
      clear z0 z1 y0 y1
      have HQ : Hid (ThQ K F X k t9 w t6 ra rc sh ((V.setCell ⟨t6, 0, none⟩ (.slice ra sh.l.length rc)).setCell ⟨t6, 1, none⟩ (.int .i64 sh.h))) := Lib.hid ⟨HBu.out.below (below_set2 HV.out.1 (Nat.le_of_eq HV.out.2.symm) _ _), (HCu.out.set 0 (.slice ra sh.l.length rc)).set 1 (.int .i64 sh.h), HC.out.2.1, HC.out.2.2, fun q => have h9 := HE5.out (HEr.out.symm.trans q); ⟨h9.1, h9.2.1.kept (Kept.of (below_set2 HV.out.1 (Nat.le_of_eq HV.out.2.symm) _ _)), h9.2.2.1, fun p hp => Nat.le_trans HHi.out (h9.2.2.2 p hp)⟩⟩
      generalize ((V.setCell ⟨t6, 0, none⟩ (.slice ra sh.l.length rc)).setCell ⟨t6, 1, none⟩ (.int .i64 sh.h)) = u9 at HQ ⊢
      refine hKK.out _ _ (HHO.out _ _ HQ.out.1) (fun hHeld => ?_)
      clear hKK KK
      try simp only [Act.put, List.setIfInBounds_toArray, List.set_cons_zero, List.set_cons_succ]
      refine AnyE.ready (rs := [16]) (by kernel_rfl) (by simp) ?_
      refine AllE.last (o := { dst := some 12, op := Go.Op.assign (Go.Operand.tmp 37), type := 3, pos := "ref.go:212", after := #[{ on := 13, ground := Go.Ground.data }, { on := 15, ground := Go.Ground.chain }, { on := 0, ground := Go.Ground.phase }, { on := 1, ground := Go.Ground.phase }, { on := 2, ground := Go.Ground.phase }, { on := 3, ground := Go.Ground.phase }, { on := 4, ground := Go.Ground.phase }, { on := 5, ground := Go.Ground.phase }, { on := 6, ground := Go.Ground.phase }, { on := 7, ground := Go.Ground.phase }, { on := 8, ground := Go.Ground.phase }, { on := 9, ground := Go.Ground.phase }, { on := 10, ground := Go.Ground.phase }, { on := 11, ground := Go.Ground.phase }, { on := 12, ground := Go.Ground.phase }, { on := 13, ground := Go.Ground.phase }, { on := 14, ground := Go.Ground.phase }, { on := 15, ground := Go.Ground.phase }], guard := none }) rfl (by kernel_rfl) (fun KK hKK => ?_)
      go_simp
      refine hKK.out _ _ ?_
      clear hKK KK
      try simp only [Act.put, List.setIfInBounds_toArray, List.set_cons_zero, List.set_cons_succ]
      go_wp2_with fail
      go_meet
      case rel => exact ⟨t6, ra, rc, sh, rfl, rfl, HQ.out⟩
    · go_simp
      obtain ⟨V, t6, hV, ht, hC, hb1, hb2, hb3⟩ := ThB.make HBd.out
      rw [← hV, ← ht]
      have HC := Lib.hid (And.intro hC (And.intro hb1 hb2))
      have HV := Lib.hid (And.intro hb3 ht)
      clear hC hV hb1 hb2 hb3 ht
      have HHi := Lib.hid (Nat.le_trans HBd.out.f.hi HV.out.1.size)
      refine hKK.out _ _ (HHO.out _ _ (HBd.out.below HV.out.1)) (fun hHeld => ?_)
      clear hKK KK
      try simp only [Act.put, List.setIfInBounds_toArray, List.set_cons_zero, List.set_cons_succ]
      refine AnyE.ready (rs := [10]) (by kernel_rfl) (by simp) ?_
      refine AllE.cons (o := { dst := some 35, op := Go.Op.call { callee := Go.Callee.value (Go.Operand.func 114), args := #[Go.Operand.tmp 25, Go.Operand.tmp 26, Go.Operand.tmp 27, Go.Operand.tmp 34], argTypes := #[26, 3, 141, 72] }, type := 163, pos := "ref.go:212", after := #[{ on := 0, ground := Go.Ground.data }, { on := 1, ground := Go.Ground.data }, { on := 2, ground := Go.Ground.data }, { on := 9, ground := Go.Ground.data }], guard := none }) rfl (fun KK hKK => ?_) AllE.nil
      go_simp
      go_at_call 114
      refine (HEf.out _ _ (HBd.out.below HV.out.1)).mono ?_
      rintro e u1 ⟨ra, rc, sh, rfl, hb5, he5⟩
      rw [HEr.out] at he5 ⊢
      have HE5 := Lib.hid he5
      have HB5 := Lib.hid hb5
      clear he5 hb5
      have HCu := Lib.hid (HC.out.1.below HB5.out)
      refine hKK.out _ _ (HHO.out _ _ ((HBd.out.below HV.out.1).below HB5.out)) (fun hHeld => ?_)
      clear hKK KK
      try simp only [Act.put, List.setIfInBounds_toArray, List.set_cons_zero, List.set_cons_succ]
      refine AnyE.take2 (i := 11) [] (oi := { dst := some 24, op := Go.Op.move (Go.Operand.tmp 35), type := 163, pos := "ref.go:212", after := #[{ on := 10, ground := Go.Ground.data }], guard := none }) (v := ?_) rfl (by kernel_rfl) (by kernel_rfl) (by kernel_rfl) (by kernel_rfl) (fun _ _ _ h => h) (Or.inl ⟨by rfl, ?_⟩) (by assumption) ?_
      rotate_left
      · (intro w0 hSw; (try dsimp only at hSw); go_split_ands; go_simp; with_reducible rfl)
      try simp only [Act.put, List.setIfInBounds_toArray, List.set_cons_zero, List.set_cons_succ]
      refine AnyE.take2 (i := 12) [] (oi := { dst := some 36, op := Go.Op.extract (Go.Operand.tmp 24) 0, type := 72, pos := "ref.go:212", after := #[{ on := 11, ground := Go.Ground.data }], guard := none }) (v := ?_) rfl (by kernel_rfl) (by kernel_rfl) (by kernel_rfl) (by kernel_rfl) (fun _ _ _ h => h) (Or.inl ⟨by rfl, ?_⟩) (by assumption) ?_
      rotate_left
      · (intro w0 hSw; (try dsimp only at hSw); go_split_ands; go_simp; with_reducible rfl)
      try simp only [Act.put, List.setIfInBounds_toArray, List.set_cons_zero, List.set_cons_succ]
      refine AnyE.take2 (i := 13) [] (oi := { dst := some 37, op := Go.Op.extract (Go.Operand.tmp 24) 1, type := 3, pos := "ref.go:212", after := #[{ on := 11, ground := Go.Ground.data }, { on := 15, ground := Go.Ground.gcOnly Go.Departure.lateStores }], guard := none }) (v := ?_) rfl (by kernel_rfl) (by kernel_rfl) (by kernel_rfl) (by kernel_rfl) (fun _ _ _ h => h) (Or.inl ⟨by rfl, ?_⟩) (by assumption) ?_
      rotate_left
      · (intro w0 hSw; (try dsimp only at hSw); go_split_ands; go_simp; with_reducible rfl)
      try simp only [Act.put, List.setIfInBounds_toArray, List.set_cons_zero, List.set_cons_succ]
      have z0 : u1.cell? ⟨t6, 0, none⟩ = some (.slice none 0 0) := HCu.out.cell 0
      have z1 : u1.cell? ⟨t6, 1, none⟩ = some (.int .i64 0) := HCu.out.cell 1
      have y0 : u1.frozen? ⟨t6, 0, none⟩ = false := HCu.out.frz 0
      have y1 : u1.frozen? ⟨t6, 1, none⟩ = false := HCu.out.frz 1
      refine AnyE.ready (rs := [15]) (by kernel_rfl) (by simp) ?_
      refine AllE.cons (o := { dst := none, op := Go.Op.store 72 (Go.Operand.tmp 11) (Go.Operand.tmp 36), type := 0, pos := "ref.go:212", after := #[{ on := 14, ground := Go.Ground.data }, { on := 12, ground := Go.Ground.data }, { on := 10, ground := Go.Ground.chain }, { on := 0, ground := Go.Ground.phase }, { on := 1, ground := Go.Ground.phase }, { on := 2, ground := Go.Ground.phase }, { on := 3, ground := Go.Ground.phase }, { on := 4, ground := Go.Ground.phase }, { on := 5, ground := Go.Ground.phase }, { on := 6, ground := Go.Ground.phase }, { on := 7, ground := Go.Ground.phase }, { on := 8, ground := Go.Ground.phase }, { on := 9, ground := Go.Ground.phase }, { on := 10, ground := Go.Ground.phase }, { on := 11, ground := Go.Ground.phase }, { on := 12, ground := Go.Ground.phase }, { on := 13, ground := Go.Ground.textOnly Go.Departure.lateStores }, { on := 14, ground := Go.Ground.phase }], guard := none }) rfl (fun KK hKK => ?_) AllE.nil
      go_simp
      clear z0 z1 y0 y1
      have HQ : Hid (ThQ K F X k t9 w t6 ra rc sh ((u1.setCell ⟨t6, 0, none⟩ (.slice ra sh.l.length rc)).setCell ⟨t6, 1, none⟩ (.int .i64 sh.h))) := Lib.hid ⟨HBd.out.below (below_set2 (HV.out.1.trans (HB5.out.mono HV.out.1.size)) (Nat.le_of_eq HV.out.2.symm) _ _), (HCu.out.set 0 (.slice ra sh.l.length rc)).set 1 (.int .i64 sh.h), HC.out.2.1, HC.out.2.2, fun q => have h9 := HE5.out (HEr.out.symm.trans q); ⟨h9.1, (h9.2.1.far (fun p hp => by have := h9.2.2.2 p hp; have := HC.out.1.lt; omega) 0 (.slice ra sh.l.length rc)).far (fun p hp => by have := h9.2.2.2 p hp; have := HC.out.1.lt; omega) 1 (.int .i64 sh.h), h9.2.2.1, fun p hp => Nat.le_trans HHi.out (h9.2.2.2 p hp)⟩⟩
      generalize ((u1.setCell ⟨t6, 0, none⟩ (.slice ra sh.l.length rc)).setCell ⟨t6, 1, none⟩ (.int .i64 sh.h)) = u9 at HQ ⊢
      refine hKK.out _ _ (HHO.out _ _ HQ.out.1) (fun hHeld => ?_)
      clear hKK KK
      try simp only [Act.put, List.setIfInBounds_toArray, List.set_cons_zero, List.set_cons_succ]
      refine AnyE.ready (rs := [16]) (by kernel_rfl) (by simp) ?_
      refine AllE.last (o := { dst := some 12, op := Go.Op.assign (Go.Operand.tmp 37), type := 3, pos := "ref.go:212", after := #[{ on := 13, ground := Go.Ground.data }, { on := 15, ground := Go.Ground.chain }, { on := 0, ground := Go.Ground.phase }, { on := 1, ground := Go.Ground.phase }, { on := 2, ground := Go.Ground.phase }, { on := 3, ground := Go.Ground.phase }, { on := 4, ground := Go.Ground.phase }, { on := 5, ground := Go.Ground.phase }, { on := 6, ground := Go.Ground.phase }, { on := 7, ground := Go.Ground.phase }, { on := 8, ground := Go.Ground.phase }, { on := 9, ground := Go.Ground.phase }, { on := 10, ground := Go.Ground.phase }, { on := 11, ground := Go.Ground.phase }, { on := 12, ground := Go.Ground.phase }, { on := 13, ground := Go.Ground.phase }, { on := 14, ground := Go.Ground.phase }, { on := 15, ground := Go.Ground.phase }], guard := none }) rfl (by kernel_rfl) (fun KK hKK => ?_)
      go_simp
      refine hKK.out _ _ ?_
      clear hKK KK
      try simp only [Act.put, List.setIfInBounds_toArray, List.set_cons_zero, List.set_cons_succ]
      go_wp2_with fail
      go_meet
      case rel => exact ⟨t6, ra, rc, sh, rfl, rfl, HQ.out⟩
  case rest =>
    obtain ⟨t6, ra, rc, sh, rfl, rfl, hq⟩ := hcut
    have HB : Hid (ThB K F X k t9 w wc) := Lib.hid hq.1
    have HX : Hid (Bx wc t6 #[.slice ra sh.l.length rc, .int .i64 sh.h] 72) := Lib.hid hq.2.1
    have HT6 : Hid (K.hi ≤ t6 ∧ w.heap.size < t6) := Lib.hid ⟨hq.2.2.1, hq.2.2.2.1⟩
    have HE : Hid (er = 0 → sh = beh K.P K.m K.D F k ∧ Ints wc ra sh.l ∧ sh.l.length ≤ rc ∧ ∀ p, ra = some p → K.hi ≤ p.block) := Lib.hid fun q => hq.2.2.2.2 (HEr.out.trans q)
    have HEnd : Hid (∀ x V, Below wc.heap.size wc V → stE K.P K.m K.n K.D (K.P.sk K.m) F k = x ∧ stF K.P K.m K.n K.D (K.P.sk K.m) F k = F → ThrP K w F k (.returned (.int .i64 x)) V) := Lib.hid fun x V hb hx => ⟨X, by rw [hx.1], by rw [hx.2]; exact hq.1.f.below hb, hq.1.r.trans (Fr.below hb)⟩
    have HFin : Hid (∀ x F' X' V, stE K.P K.m K.n K.D (K.P.sk K.m) F k = x ∧ stF K.P K.m K.n K.D (K.P.sk K.m) F k = F' → StC K V F' X' → Fr K w V → ThrP K w F k (.returned (.int .i64 x)) V) := Lib.hid fun x F' X' V hx hs hf => ⟨X', by rw [hx.1], by rw [hx.2]; exact hs, hf⟩
    clear hq
    have m3 := (HM4.out wc HB.out.f.b).2
    have p2 : wc.cell? ⟨w.heap.size, 2, none⟩ = some (.slice (some ⟨bm, om, none⟩) K.P.nm K.A.mc) := (HB.out.p.cell 2).trans (by rw [← HMa.out]; rfl)
    have c60 : wc.cell? ⟨t6, 0, none⟩ = some (.slice ra sh.l.length rc) := HX.out.cell 0
    have c61 : wc.cell? ⟨t6, 1, none⟩ = some (.int .i64 sh.h) := HX.out.cell 1
    by_cases her0 : er = 0
    · subst her0
      obtain ⟨hsh, hI, hrc, hrf⟩ := HE.out rfl
      have HS : Hid (sh = beh K.P K.m K.D F k) := Lib.hid hsh
      have HI : Hid (Ints wc ra sh.l ∧ sh.l.length ≤ rc ∧ ∀ p, ra = some p → K.hi ≤ p.block) := Lib.hid ⟨hI, hrc, hrf⟩
      have HSh : Hid (0 ≤ sh.h ∧ sh.h ≤ 10) := Lib.hid (by rw [hsh]; exact effS_len HEr.out (HF.out.t0 k hk) (HF.out.t1 k hk))
      clear hsh hI hrc hrf
      by_cases hst : K.P.sk K.m < (sh.l.length : Int)
      · have d5 : decide (K.P.sk K.m < (sh.l.length : Int)) = true := decide_eq_true hst
        have HX2 := Lib.hid (st_b K.P K.m K.n K.D (K.P.sk K.m) F k HEr.out (.inl (by rw [← HS.out]; exact hst)))
        clear hst
        go_wp2_with fail
        go_quiet (fail)
        go_wp2
        go_ret
        exact HEnd.out 22 _ (below_drewN (Below.refl _ _) _) HX2.out
      · have d5 : decide (K.P.sk K.m < (sh.l.length : Int)) = false := decide_eq_false hst
        have hlen : sh.l.length ≤ 40 := by have := HK.out.s1; omega
        go_wp2_with fail
        go_quiet (fail)
        obtain ⟨V, hV⟩ : ∃ V, V = wc.drewN nq := ⟨_, rfl⟩
        have hbV : Below wc.heap.size wc V := hV ▸ below_drewN (Below.refl _ _) _
        rw [← hV]
        have HbV := Lib.hid hbV
        replace HB := Lib.hid (HB.out.below hbV)
        replace HX := Lib.hid (HX.out.below hbV)
        replace HI : Hid (Ints V ra sh.l ∧ sh.l.length ≤ rc ∧ ∀ p, ra = some p → K.hi ≤ p.block) := Lib.hid ⟨HI.out.1.kept (Kept.of hbV), HI.out.2⟩
        clear hV hbV m3 p2 c60 c61
        have g0 : V.cell? ⟨t9, 0, none⟩ = some (.int .i64 (K.D k : Nat)) := HB.out.x.cell 0
        have g1 : V.cell? ⟨t9, 1, none⟩ = some (.int .i64 (opA K.D k)) := HB.out.x.cell 1
        have g3 : V.cell? ⟨t9, 3, none⟩ = some (.int .i64 (szK (kindO (K.D k)) : Nat)) := HB.out.x.cell 3
        have c60 : V.cell? ⟨t6, 0, none⟩ = some (.slice ra sh.l.length rc) := HX.out.cell 0
        have c61 : V.cell? ⟨t6, 1, none⟩ = some (.int .i64 sh.h) := HX.out.cell 1
        have HRch : Hid (∀ V F' X' (j : Nat), StC K V F' X' → Ints V ra sh.l → j ≤ K.n → Calls Try.prog 115 #[.pointer (some ⟨K.f, 0, none⟩), .int .i64 (j : Nat), .agg #[.slice ra sh.l.length rc, .int .i64 sh.h]] V (RchP K V F' j sh)) := Lib.hid fun V F' X' j h1 h2 hj => reachx_c K HK.out F' X' j sh ra rc V h1 hj h2 HI.out.2.1 HI.out.2.2 hlen HSh.out.1 HSh.out.2
        have hgi : K.hi ≤ w.heap.size := HF.out.hi
        by_cases h28 : K.D k = 28
        · have HB28 := Lib.hid h28
          have e28 : ((K.D k : Int) == 28) = true := by rw [h28]; rfl
          clear h28
          by_cases hl0 : 0 < sh.l.length
          · have d6 : decide ((0 : Int) < (sh.l.length : Int)) = true := decide_eq_true (by omega)
            have d7 : decide (0 < sh.l.length) = true := decide_eq_true hl0
            have HX2 := Lib.hid (st_b K.P K.m K.n K.D (K.P.sk K.m) F k HEr.out (.inr ⟨HB28.out, by rw [← HS.out]; exact hl0⟩))
            go_wp2
            go_ret
            exact HEnd.out 22 _ HbV.out HX2.out
          · have d6 : decide ((0 : Int) < (sh.l.length : Int)) = false := decide_eq_false (by omega)
            have d7 : decide (0 < sh.l.length) = false := decide_eq_false hl0
            by_cases hh0 : sh.h = 0
            · have d8 : (sh.h != 0) = false := by simpa using hh0
              have HX2 : Hid (stE K.P K.m K.n K.D (K.P.sk K.m) F k = 0 ∧ stF K.P K.m K.n K.D (K.P.sk K.m) F k = F) := Lib.hid (by
                have h1 := st_ok K.P K.m K.n K.D (K.P.sk K.m) F k HEr.out (by rw [← HS.out]; omega) (by rw [← HS.out]; omega)
                have h2 := on_off K.P K.m K.n K.D F k (by rw [HB28.out]; rfl)
                have h3 := jm_off K.D k F (beh K.P K.m K.D F k) (by rw [HB28.out]; rfl)
                rw [h2.1, h2.2, if_neg (fun q => q rfl), if_neg (fun q => q rfl), h3.1, h3.2] at h1
                exact h1)
              clear hh0 hst
              go_wp2
              go_ret
              exact HEnd.out 0 _ HbV.out HX2.out
            · have d8 : (sh.h != 0) = true := by simpa using hh0
              have HX2 := Lib.hid (st_c K.P K.m K.n K.D (K.P.sk K.m) F k HEr.out (by rw [← HS.out]; omega) HB28.out (by rw [← HS.out]; exact hh0))
              clear hh0
              go_wp2
              go_ret
              exact HEnd.out 25 _ HbV.out HX2.out
        have HOk := Lib.hid (st_ok K.P K.m K.n K.D (K.P.sk K.m) F k HEr.out (by rw [← HS.out]; omega) (fun q => h28 q.1))
        clear hst
        have hbz := szK_bd (kindO (K.D k))
        have hnx : k + szK (kindO (K.D k)) ≤ K.n := HNx.out
        have e28 : ((K.D k : Int) == 28) = false := eqB_n h28
        by_cases h25 : K.D k = 25
        · have e25 : ((K.D k : Int) == 25) = true := by rw [h25]; rfl
          have n25 : ((K.D k : Int) != 25) = false := by rw [h25]; rfl
          have HJT : Hid (jumpB (K.D k) = true) := Lib.hid (by rw [h25]; rfl)
          have HX2 : Hid (stE K.P K.m K.n K.D (K.P.sk K.m) F k = reachE F (jmp K.D k) sh ∧ stF K.P K.m K.n K.D (K.P.sk K.m) F k = reachF F (jmp K.D k) sh) := Lib.hid (by
            have h1 := HOk.out
            have h2 := on_off K.P K.m K.n K.D F k (by rw [h25]; rfl)
            have h3 := jm_go K.D k F (beh K.P K.m K.D F k) HJT.out
            rw [h2.1, h2.2, if_neg (fun q => q rfl), if_neg (fun q => q rfl), h3.1, h3.2] at h1
            rw [HS.out]
            exact h1)
          clear h25 h28
          have hjj := HJm.out HJT.out
          have hjw : (k : Int) + opA K.D k = ((jmp K.D k : Nat) : Int) := by unfold jmp; omega
          have hjw2 : IntKind.i64.wrap ((k : Int) + opA K.D k) = ((jmp K.D k : Nat) : Int) := by rw [hjw, IntKind.wrap_i64]; have := hjj.2; omega
          have hjn : jmp K.D k < K.n := hjj.2
          clear hjj
          generalize jmp K.D k = jx at *
          have HRc : Hid (Calls Try.prog 115 #[.pointer (some ⟨K.f, 0, none⟩), .int .i64 (jx : Nat), .agg #[.slice ra sh.l.length rc, .int .i64 sh.h]] V fun e w' => ∃ X', e = .returned (.int .i64 (reachE F jx sh)) ∧ StC K w' (reachF F jx sh) X' ∧ Fr K V w') := Lib.hid (by
            have h1 := HRch.out V F X jx HB.out.f HI.out.1 (Nat.le_of_lt hjn)
            unfold RchP at h1
            rw [if_neg (by omega), if_neg (by omega)] at h1
            exact h1)
          go_wp2_with fail
          refine HRc.out.mono ?_
          rintro e W2 ⟨X2, rfl, hf2, hr2⟩
          go_wp2
          go_ret
          exact HFin.out _ _ X2 _ HX2.out hf2 (HB.out.r.trans hr2)
        have e25 : ((K.D k : Int) == 25) = false := eqB_n h25
        have n25 : ((K.D k : Int) != 25) = true := by simpa using (show ¬ (K.D k : Int) = 25 by omega)
        have HOnT : Hid (onB (K.D k) = true) := Lib.hid (decide_eq_true ⟨h25, h28⟩)
        have hnw : IntKind.i64.wrap ((k : Int) + (szK (kindO (K.D k)) : Nat)) = ((nxt K.D k : Nat) : Int) := by rw [IntKind.wrap_i64]; unfold nxt; omega
        have hnw2 : (k : Int) + (szK (kindO (K.D k)) : Nat) = ((nxt K.D k : Nat) : Int) := by unfold nxt; omega
        have hnn : nxt K.D k ≤ K.n := hnx
        have HG : Hid (onE K.P K.m K.n K.D F k = (if nxt K.D k = K.n then 26 else reachE F (nxt K.D k) sh) ∧ onF K.P K.m K.n K.D F k = (if nxt K.D k = K.n then F else reachF F (nxt K.D k) sh)) := Lib.hid (by
          rw [HS.out]
          unfold onE onF
          rw [HOnT.out, if_pos rfl, if_pos rfl]
          exact ⟨rfl, rfl⟩)
        have HRc := Lib.hid (HRch.out V F X (nxt K.D k) HB.out.f HI.out.1 hnn)
        obtain ⟨e1, he1⟩ : ∃ e1, (if nxt K.D k = K.n then 26 else reachE F (nxt K.D k) sh) = e1 := ⟨_, rfl⟩
        obtain ⟨F1, hF1⟩ : ∃ F1, (if nxt K.D k = K.n then F else reachF F (nxt K.D k) sh) = F1 := ⟨_, rfl⟩
        unfold RchP at HRc
        rw [he1, hF1] at HG HRc
        clear he1 hF1 h25
        generalize nxt K.D k = nx at *
        go_wp2_with fail
        refine HRc.out.mono ?_
        rintro e W2 ⟨X2, rfl, hf2, hr2⟩
        have HF2 := Lib.hid hf2
        have HR2 := Lib.hid hr2
        clear g0 g1 g3 c60 c61 hf2 hr2
        have HBx2 := Lib.hid (HR2.out.bx HB.out.x (Nat.le_of_lt (Nat.lt_of_le_of_lt hgi HB.out.g)) HK.out)
        have HXX2 : Hid (Bx W2 t6 #[.slice ra sh.l.length rc, .int .i64 sh.h] 72) := Lib.hid (HR2.out.bx HX.out HT6.out.1 HK.out)
        have g0 : W2.cell? ⟨t9, 0, none⟩ = some (.int .i64 (K.D k : Nat)) := HBx2.out.cell 0
        have g1 : W2.cell? ⟨t9, 1, none⟩ = some (.int .i64 (opA K.D k)) := HBx2.out.cell 1
        have c60 : W2.cell? ⟨t6, 0, none⟩ = some (.slice ra sh.l.length rc) := HXX2.out.cell 0
        have c61 : W2.cell? ⟨t6, 1, none⟩ = some (.int .i64 sh.h) := HXX2.out.cell 1
        by_cases he0 : e1 = 0
        · have d0 : (e1 == 0) = true := by simpa using he0
          subst he0
          by_cases h26 : K.D k = 26
          · have e26 : ((K.D k : Int) == 26) = true := by rw [h26]; rfl
            have HJT : Hid (jumpB (K.D k) = true) := Lib.hid (by rw [h26]; rfl)
            have HZ : Hid (stE K.P K.m K.n K.D (K.P.sk K.m) F k = reachE F1 (jmp K.D k) sh ∧ stF K.P K.m K.n K.D (K.P.sk K.m) F k = reachF F1 (jmp K.D k) sh) := Lib.hid (by
              have h1 := HOk.out
              have h3 := jm_go K.D k F1 sh HJT.out
              rw [HG.out.1, HG.out.2, ← HS.out, if_neg (fun z => z rfl), if_neg (fun z => z rfl), h3.1, h3.2] at h1
              exact h1)
            clear h26 h28
            have hjj := HJm.out HJT.out
            have hjw : (k : Int) + opA K.D k = ((jmp K.D k : Nat) : Int) := by unfold jmp; omega
            have hjw2 : IntKind.i64.wrap ((k : Int) + opA K.D k) = ((jmp K.D k : Nat) : Int) := by rw [hjw, IntKind.wrap_i64]; have := hjj.2; omega
            have hjn : jmp K.D k < K.n := hjj.2
            clear hjj
            generalize jmp K.D k = jx at *
            have HRc2 : Hid (Calls Try.prog 115 #[.pointer (some ⟨K.f, 0, none⟩), .int .i64 (jx : Nat), .agg #[.slice ra sh.l.length rc, .int .i64 sh.h]] W2 fun e w' => ∃ X', e = .returned (.int .i64 (reachE F1 jx sh)) ∧ StC K w' (reachF F1 jx sh) X' ∧ Fr K W2 w') := Lib.hid (by
              have h1 := HRch.out W2 F1 X2 jx HF2.out (HR2.out.ints HI.out.1 HI.out.2.2 HK.out) (Nat.le_of_lt hjn)
              unfold RchP at h1
              rw [if_neg (by omega), if_neg (by omega)] at h1
              exact h1)
            go_wp2_with fail
            refine HRc2.out.mono ?_
            rintro e W4 ⟨X4, rfl, hf4, hr4⟩
            go_wp2
            go_ret
            exact HFin.out _ _ X4 _ HZ.out hf4 ((HB.out.r.trans HR2.out).trans hr4)
          · have e26 : ((K.D k : Int) == 26) = false := eqB_n h26
            have HZ : Hid (stE K.P K.m K.n K.D (K.P.sk K.m) F k = 0 ∧ stF K.P K.m K.n K.D (K.P.sk K.m) F k = F1) := Lib.hid (by
              have h1 := HOk.out
              have h3 := jm_off K.D k F1 sh (decide_eq_false (by have := of_decide_eq_true HOnT.out; omega))
              rw [HG.out.1, HG.out.2, ← HS.out, if_neg (fun z => z rfl), if_neg (fun z => z rfl), h3.1, h3.2] at h1
              exact h1)
            clear h26 h28
            go_wp2
            go_ret
            exact HFin.out _ _ X2 _ HZ.out HF2.out (HB.out.r.trans HR2.out)
        · have d0 : (e1 == 0) = false := by simpa using he0
          have HZ : Hid (stE K.P K.m K.n K.D (K.P.sk K.m) F k = e1 ∧ stF K.P K.m K.n K.D (K.P.sk K.m) F k = F1) := Lib.hid (by
            have h1 := HOk.out
            rw [HG.out.1, HG.out.2, if_pos he0, if_pos he0] at h1
            exact h1)
          clear he0 h28
          go_wp2
          go_ret
          exact HFin.out _ _ X2 _ HZ.out HF2.out (HB.out.r.trans HR2.out)
    · have d0 : (er != 0) = true := by simpa using her0
      have HX2 := Lib.hid (st_a K.P K.m K.n K.D (K.P.sk K.m) F k HEr.out her0)
      clear her0
      go_wp2
      go_ret
      exact HEnd.out er _ (Below.refl _ _) HX2.out
end Go.Proofs.Ytpiafgmncfibmaa.Vf
