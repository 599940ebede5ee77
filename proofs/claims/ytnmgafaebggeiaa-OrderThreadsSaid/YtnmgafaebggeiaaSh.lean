import Derived.Test.YtnmgafaebggeiaaSg
namespace Go.Proofs.Ytnmgafaebggeiaa.St
open Go.ChangeShapes Go.WideShapes Go.ChangeAt Go.RowKit Go.Maps
set_option linter.unusedVariables false
/-! ### joined with a join; stamp -/
set_option maxRecDepth 100000 in
set_option maxHeartbeats 4000000 in
theorem joined_p {w : World} {P : Pc} {F : Fx} {S S' : St} (h : SmC w P F S) (hF : FxOk F) (hm1 : S.mx < 1000) (hm2 : S.mw < 1000) (th kd ob sl : Int) {v : Nat} (rf : Bool) (f1 f2 tm : Int) (b : Bool) (hv : v < 4) (q3 : (kd == 3) = false) (q1 : (kd == 1) = false) (q6 : (kd == 6) = true) (qt : ((v : Int) != th) = true)
    (hS' : S' = S.plain F v ((F.rows v).length - S.gone v)) (x : Ck) (hx : S'.now v = x) :
    Calls Try.prog 34 #[.pointer (some ⟨P.s, 0, none⟩), .agg #[.int .i64 th, .int .i64 kd, .int .i64 ob, .int .i64 sl, .int .i64 v, .bool rf, .int .i64 f1, .int .i64 f2, .int .i64 tm], .bool b] w fun r w' => r = .returned x.v ∧ SmC w' P F S' ∧ Kp P.fp w w' := by
  have HH := Lib.hid h
  have HF := Lib.hid hF
  have HM1 := Lib.hid hm1
  have HM2 := Lib.hid hm2
  have HV := Lib.hid hv
  have gv : (v : Int) < 4 := by omega
  have gv0 : (0 : Int) ≤ v := by omega
  have HSS := Lib.hid hS'
  have HX := Lib.hid hx
  clear hS' hx hm1 hm2 hF
  have HFR : Hid (∀ q, P.fp q → q < w.heap.size) := Lib.hid fun q hq => HH.out.fl hq
  have HB : Hid (Below w.heap.size w ((w.alloc (.cells #[.int .i64 th, .int .i64 kd, .int .i64 ob, .int .i64 sl, .int .i64 v, .bool rf, .int .i64 f1, .int .i64 f2, .int .i64 tm] 44)).alloc (.cells #[.int .i64 0, .int .i64 0, .int .i64 0, .int .i64 0] 24))) := Lib.hid (((Below.refl _ _).alloc (Nat.le_refl _) _).alloc (by simp) _)
  have HT : Hid (rowAt ((w.alloc (.cells #[.int .i64 th, .int .i64 kd, .int .i64 ob, .int .i64 sl, .int .i64 v, .bool rf, .int .i64 f1, .int .i64 f2, .int .i64 tm] 44)).alloc (.cells #[.int .i64 0, .int .i64 0, .int .i64 0, .int .i64 0] 24)) (w.heap.size + 1) = some #[.int .i64 0, .int .i64 0, .int .i64 0, .int .i64 0]) := Lib.hid (by have := rowAt_new (w.alloc (.cells #[.int .i64 th, .int .i64 kd, .int .i64 ob, .int .i64 sl, .int .i64 v, .bool rf, .int .i64 f1, .int .i64 f2, .int .i64 tm] 44)) #[.int .i64 0, .int .i64 0, .int .i64 0, .int .i64 0] 24; rwa [size_alloc] at this)
  have HE : Hid (rowAt ((w.alloc (.cells #[.int .i64 th, .int .i64 kd, .int .i64 ob, .int .i64 sl, .int .i64 v, .bool rf, .int .i64 f1, .int .i64 f2, .int .i64 tm] 44)).alloc (.cells #[.int .i64 0, .int .i64 0, .int .i64 0, .int .i64 0] 24)) w.heap.size = some #[.int .i64 th, .int .i64 kd, .int .i64 ob, .int .i64 sl, .int .i64 v, .bool rf, .int .i64 f1, .int .i64 f2, .int .i64 tm]) := Lib.hid (rowAt_past (rowAt_new _ _ _) _)
  clear h hv
  go_enter Try.func34, Try.ntmps34
  go_upto_region 6 with (fail)
  obtain ⟨U, hU⟩ : ∃ U, U = ((w.alloc (.cells #[.int .i64 th, .int .i64 kd, .int .i64 ob, .int .i64 sl, .int .i64 v, .bool rf, .int .i64 f1, .int .i64 f2, .int .i64 tm] 44)).alloc (.cells #[.int .i64 0, .int .i64 0, .int .i64 0, .int .i64 0] 24)) := ⟨_, rfl⟩
  rw [← hU] at HB HT HE ⊢
  clear hU
  obtain ⟨t, ht⟩ : ∃ t, t = w.heap.size := ⟨_, rfl⟩
  have HTT := Lib.hid ht
  rw [← ht] at HT HE ⊢
  clear ht
  have HS := Lib.hid (HH.out.past HB.out)
  have e4 : U.cell? ⟨t, 4, none⟩ = some (.int .i64 v) := rowAt_cell HE.out 4
  have HP : Hid (Kp P.fp w U) := Lib.hid (Kp.of_below HB.out)
  clear HB
  go_wp2_with (first | (go_at_call 28; refine (plain_c HS.out HF.out HV.out HM1.out HM2.out).mono ?_; rintro e W1 ⟨rfl, hs, hk5⟩; replace HT := Lib.hid (rowAt_kp HT.out hk5 (fun hf => by have := HFR.out _ hf; have := HTT.out; omega)); replace HE := Lib.hid (rowAt_kp HE.out hk5 (fun hf => by have := HFR.out _ hf; have := HTT.out; omega)); replace HP := Lib.hid (HP.out.trans hk5 fun q hq => .inl hq); rw [← HSS.out] at hs; replace HS := Lib.hid hs; clear hs hk5 e4))
  clear HSS
  replace HT : Hid (rowAt W1.drew (t + 1) = some #[.int .i64 0, .int .i64 0, .int .i64 0, .int .i64 0]) := Lib.hid HT.out
  replace HE : Hid (rowAt W1.drew t = some #[.int .i64 th, .int .i64 kd, .int .i64 ob, .int .i64 sl, .int .i64 v, .bool rf, .int .i64 f1, .int .i64 f2, .int .i64 tm]) := Lib.hid HE.out
  replace HP : Hid (Kp P.fp w W1.drew) := Lib.hid (HP.out.trans (Kp.of_below (FP := P.fp) (Below.refl _ _).drew) fun q hq => .inl hq)
  replace HS : Hid (SmC W1.drew P F S') := Lib.hid (HS.out.past (Below.refl _ _).drew)
  have HNW : Hid (W1.drew.cell? ⟨P.s, 7 + v * 4, none⟩ = some (.int .i64 x.a) ∧ W1.drew.cell? ⟨P.s, 7 + v * 4 + 1, none⟩ = some (.int .i64 x.b) ∧ W1.drew.cell? ⟨P.s, 7 + v * 4 + 2, none⟩ = some (.int .i64 x.c) ∧ W1.drew.cell? ⟨P.s, 7 + v * 4 + 3, none⟩ = some (.int .i64 x.d)) := Lib.hid (by have := HS.out.nows HV.out; rwa [HX.out] at this)
  refine region_e 7 (fun w' => w'.cell? ⟨t, 4, none⟩ = some (.int .i64 v) ∧ w'.cell? ⟨P.s, 7 + v * 4, none⟩ = some (.int .i64 x.a) ∧ w'.cell? ⟨P.s, 7 + v * 4 + 1, none⟩ = some (.int .i64 x.b) ∧ w'.cell? ⟨P.s, 7 + v * 4 + 2, none⟩ = some (.int .i64 x.c) ∧ w'.cell? ⟨P.s, 7 + v * 4 + 3, none⟩ = some (.int .i64 x.d)) (by kernel_rfl) ⟨rowAt_cell HE.out 4, HNW.out⟩ (fun hHeld => ?_)
  refine AnyE.take2 (i := 0) [] (oi := { dst := some 60, op := Go.Op.move (Go.Operand.tmp 0), type := 50, pos := "stamp.go:137", after := #[], guard := none }) (v := ?_) rfl (by kernel_rfl) (by kernel_rfl) (by kernel_rfl) (by kernel_rfl) (fun _ _ _ h => h) (Or.inl ⟨by rfl, ?_⟩) (by assumption) ?_
  rotate_left
  · (intro w0 hSw; (try dsimp only at hSw); go_split_ands; go_simp; with_reducible rfl)
  try simp only [Act.put, List.setIfInBounds_toArray, List.set_cons_zero, List.set_cons_succ]
  refine AnyE.take2 (i := 1) [] (oi := { dst := some 61, op := Go.Op.fieldAddr 44 (Go.Operand.tmp 4) 4, type := 0, pos := "stamp.go:137", after := #[], guard := none }) (v := ?_) rfl (by kernel_rfl) (by kernel_rfl) (by kernel_rfl) (by kernel_rfl) (fun _ _ _ h => h) (Or.inl ⟨by rfl, ?_⟩) (by assumption) ?_
  rotate_left
  · (intro w0 hSw; (try dsimp only at hSw); go_split_ands; go_simp; with_reducible rfl)
  try simp only [Act.put, List.setIfInBounds_toArray, List.set_cons_zero, List.set_cons_succ]
  refine AnyE.take2 (i := 2) [] (oi := { dst := some 62, op := Go.Op.load 2 (Go.Operand.tmp 61), type := 2, pos := "stamp.go:137", after := #[{ on := 1, ground := Go.Ground.data }], guard := none }) (v := ?_) rfl (by kernel_rfl) (by kernel_rfl) (by kernel_rfl) (by kernel_rfl) (fun _ _ _ h => h) (Or.inl ⟨by rfl, ?_⟩) (by assumption) ?_
  rotate_left
  · (intro w0 hSw; (try dsimp only at hSw); go_split_ands; go_simp; with_reducible rfl)
  try simp only [Act.put, List.setIfInBounds_toArray, List.set_cons_zero, List.set_cons_succ]
  refine AnyE.take2 (i := 3) [] (oi := { dst := some 63, op := Go.Op.nilCheck (Go.Operand.tmp 60), type := 0, pos := "stamp.go:137", after := #[{ on := 0, ground := Go.Ground.data }], guard := none }) (v := ?_) rfl (by kernel_rfl) (by kernel_rfl) (by kernel_rfl) (by kernel_rfl) (fun _ _ _ h => h) (Or.inl ⟨by rfl, ?_⟩) (by assumption) ?_
  rotate_left
  · (intro w0 hSw; (try dsimp only at hSw); go_split_ands; go_simp; with_reducible rfl)
  try simp only [Act.put, List.setIfInBounds_toArray, List.set_cons_zero, List.set_cons_succ]
  refine AnyE.take2 (i := 4) [] (oi := { dst := some 64, op := Go.Op.fieldAddr 59 (Go.Operand.tmp 63) 4, type := 0, pos := "stamp.go:137", after := #[{ on := 3, ground := Go.Ground.data }], guard := none }) (v := ?_) rfl (by kernel_rfl) (by kernel_rfl) (by kernel_rfl) (by kernel_rfl) (fun _ _ _ h => h) (Or.inl ⟨by rfl, ?_⟩) (by assumption) ?_
  rotate_left
  · (intro w0 hSw; (try dsimp only at hSw); go_split_ands; go_simp; with_reducible rfl)
  try simp only [Act.put, List.setIfInBounds_toArray, List.set_cons_zero, List.set_cons_succ]
  refine AnyE.take2 (i := 5) [] (oi := { dst := some 65, op := Go.Op.indexAddr 57 (Go.Operand.tmp 64) (Go.Operand.tmp 62), type := 0, pos := "stamp.go:137", after := #[{ on := 4, ground := Go.Ground.data }, { on := 2, ground := Go.Ground.data }], guard := none }) (v := ?_) rfl (by kernel_rfl) (by kernel_rfl) (by kernel_rfl) (by kernel_rfl) (fun _ _ _ h => h) (Or.inl ⟨by rfl, ?_⟩) (by assumption) ?_
  rotate_left
  · (intro w0 hSw; (try dsimp only at hSw); go_split_ands; go_simp; with_reducible rfl)
  try simp only [Act.put, List.setIfInBounds_toArray, List.set_cons_zero, List.set_cons_succ]
  refine AnyE.take2 (i := 6) [] (oi := { dst := some 66, op := Go.Op.load 24 (Go.Operand.tmp 65), type := 24, pos := "stamp.go:137", after := #[{ on := 5, ground := Go.Ground.data }], guard := none }) (v := ?_) rfl (by kernel_rfl) (by kernel_rfl) (by kernel_rfl) (by kernel_rfl) (fun _ _ _ h => h) (Or.inl ⟨by rfl, ?_⟩) (by assumption) ?_
  rotate_left
  · (intro w0 hSw; (try dsimp only at hSw); go_split_ands; go_simp; with_reducible rfl)
  try simp only [Act.put, List.setIfInBounds_toArray, List.set_cons_zero, List.set_cons_succ]
  refine AnyE.ready (rs := [7]) (by kernel_rfl) (by simp) ?_
  refine AllE.last (o := { dst := none, op := Go.Op.store 24 (Go.Operand.tmp 6) (Go.Operand.tmp 66), type := 0, pos := "stamp.go:137", after := #[{ on := 6, ground := Go.Ground.data }, { on := 0, ground := Go.Ground.phase }, { on := 1, ground := Go.Ground.phase }, { on := 2, ground := Go.Ground.phase }, { on := 3, ground := Go.Ground.phase }, { on := 4, ground := Go.Ground.phase }, { on := 5, ground := Go.Ground.phase }, { on := 6, ground := Go.Ground.phase }], guard := none }) rfl (by kernel_rfl) (fun K hK => ?_)
  clear hHeld
  generalize W1.drew = V at HT HS HP HE ⊢
  have z0 := rowAt_cell HT.out 0
  have z1 := rowAt_cell HT.out 1
  have z2 := rowAt_cell HT.out 2
  have z3 := rowAt_cell HT.out 3
  simp only [List.getElem?_toArray, List.getElem?_cons_zero, List.getElem?_cons_succ] at z0 z1 z2 z3
  have f0 := rowAt_frz HT.out 0
  have f1' := rowAt_frz HT.out 1
  have f2' := rowAt_frz HT.out 2
  have f3 := rowAt_frz HT.out 3
  go_simp
  refine hK.out _ _ ?_
  clear hK K
  have HR : Hid (rowAt ((((V.setCell ⟨t + 1, 0, none⟩ (.int .i64 x.a)).setCell ⟨t + 1, 1, none⟩ (.int .i64 x.b)).setCell ⟨t + 1, 2, none⟩ (.int .i64 x.c)).setCell ⟨t + 1, 3, none⟩ (.int .i64 x.d)) (t + 1) = some #[.int .i64 x.a, .int .i64 x.b, .int .i64 x.c, .int .i64 x.d]) := Lib.hid (rowAt_set (rowAt_set (rowAt_set (rowAt_set HT.out 0 _) 1 _) 2 _) 3 _)
  have HF1 : Hid (SmC ((((V.setCell ⟨t + 1, 0, none⟩ (.int .i64 x.a)).setCell ⟨t + 1, 1, none⟩ (.int .i64 x.b)).setCell ⟨t + 1, 2, none⟩ (.int .i64 x.c)).setCell ⟨t + 1, 3, none⟩ (.int .i64 x.d)) P F S' ∧ Kp P.fp w ((((V.setCell ⟨t + 1, 0, none⟩ (.int .i64 x.a)).setCell ⟨t + 1, 1, none⟩ (.int .i64 x.b)).setCell ⟨t + 1, 2, none⟩ (.int .i64 x.c)).setCell ⟨t + 1, 3, none⟩ (.int .i64 x.d))) := Lib.hid (by
    have hg := st4_grown V (t + 1) 0 x
    have h1 := HTT.out
    refine ⟨HH.out.free HS.out hg (by omega), ⟨hg.os.trans HP.out.os, hg.tape.trans HP.out.tape, hg.output.trans HP.out.output, Nat.le_trans HP.out.size hg.size, fun q hq hn => (hg.block q (Nat.lt_of_lt_of_le hq HP.out.size) fun e => by injection e with e; omega).trans (HP.out.block q hq hn)⟩⟩)
  generalize ((((V.setCell ⟨t + 1, 0, none⟩ (.int .i64 x.a)).setCell ⟨t + 1, 1, none⟩ (.int .i64 x.b)).setCell ⟨t + 1, 2, none⟩ (.int .i64 x.c)).setCell ⟨t + 1, 3, none⟩ (.int .i64 x.d)) = V5 at HF1 HR ⊢
  clear z0 z1 z2 z3 f0 f1' f2' f3
  have y0 : V5.cell? ⟨t + 1, 0, none⟩ = some (.int .i64 x.a) := rowAt_cell HR.out 0
  have y1 : V5.cell? ⟨t + 1, 1, none⟩ = some (.int .i64 x.b) := rowAt_cell HR.out 1
  have y2 : V5.cell? ⟨t + 1, 2, none⟩ = some (.int .i64 x.c) := rowAt_cell HR.out 2
  have y3 : V5.cell? ⟨t + 1, 3, none⟩ = some (.int .i64 x.d) := rowAt_cell HR.out 3
  go_wp2
  refine bodyPost_ret (v := x.v) (by simp [results, Try.results34, go_sem, Ck.v, y0, y1, y2, y3]) rfl ⟨rfl, HF1.out⟩
/-- What a stamp does to the state. -/
def St.stamp (F : Fx) (S : St) (i k : Nat) : St :=
  if (F.X i).kd = 6 ∧ 0 ≤ (F.X i).va ∧ (F.X i).va < 4 ∧ (F.X i).va ≠ (F.X i).th then
    (S.plain F (F.X i).va.toNat ((F.rows (F.X i).va.toNat).length - S.gone (F.X i).va.toNat)).mark i k (((S.bef k).join ((S.plain F (F.X i).va.toNat ((F.rows (F.X i).va.toNat).length - S.gone (F.X i).va.toNat)).now (F.X i).va.toNat)).tick k)
  else (S.mark i k (((S.bef k).join (S.jn (F.X i) (F.sy i))).tick k)).kind (F.X i) (F.sy i) (((S.bef k).join (S.jn (F.X i) (F.sy i))).tick k)
theorem plain_same (F : Fx) (k : Nat) : ∀ (n : Nat) (S : St), (S.plain F k n).mx = S.mx ∧ (S.plain F k n).mw = S.mw ∧ (∀ j, j ≠ k → (S.plain F k n).gone j = S.gone j)
  | 0, S => ⟨rfl, rfl, fun _ _ => rfl⟩
  | n + 1, S => by
    unfold St.plain
    split
    · split
      · exact ⟨rfl, rfl, fun _ _ => rfl⟩
      · next i _ _ =>
        obtain ⟨h1, h2, h3⟩ := plain_same F k n (S.mark i k (S.nx k))
        exact ⟨h1, h2, fun j hj => (h3 j hj).trans (upd_ne _ _ hj)⟩
    · exact ⟨rfl, rfl, fun _ _ => rfl⟩
theorem stamp_c {w : World} {P : Pc} {F : Fx} {S : St} (h : SmC w P F S) (hF : FxOk F) {i : Nat} (hi : i < F.N) {k : Nat} (hk : k < 4) (hth : (F.X i).th = (k : Nat)) (hg : S.gone k < 1000) (hm1 : S.mx < 1000) (hm2 : S.mw < 1000) :
    Calls Try.prog 29 #[.pointer (some ⟨P.s, 0, none⟩), .int .i64 i] w fun r w' => r = .returned (.tuple #[]) ∧ SmC w' P F (S.stamp F i k) ∧ Kp P.fp w w' := by
  unfold St.stamp
  split
  · next hj =>
    have he : F.X i = ⟨k, (F.X i).kd, (F.X i).ob, (F.X i).sl, ((F.X i).va.toNat : Nat), (F.X i).rf, (F.X i).f1, (F.X i).f2, (F.X i).tm⟩ := by
      rw [← hth, Int.toNat_of_nonneg hj.2.1]
    obtain ⟨v, hv⟩ : ∃ v, v = (F.X i).va.toNat := ⟨_, rfl⟩
    rw [← hv] at he ⊢
    obtain ⟨s1, s2, s3⟩ := plain_same F v ((F.rows v).length - S.gone v) S
    have hvk : k ≠ v := by have := hj.2.2.2; rw [hth] at this; omega
    have h1 := stamp_i h hi hk _ _ _ _ _ _ _ _ he _ (fun W hW => joined_p hW hF hm1 hm2 _ _ _ _ _ _ _ _ _ (by have := hj.2.2.1; omega) (by simp [hj.1]) (by simp [hj.1]) (by simp [hj.1]) (by have := hj.2.2.2; rw [hth] at this; simp; omega) rfl _ rfl) (by rw [s3 k hvk]; exact hg) (by rw [s1]; exact hm1) (by rw [s2]; exact hm2)
    have e2 : ∀ (T : St) (c : Ck), T.kind (F.X i) (F.sy i) c = T := fun T c => by
      unfold St.kind
      rw [if_neg (by rw [hj.1]; decide), if_neg (by rw [hj.1]; exact fun h => absurd h.1 (by decide)), if_neg (by rw [hj.1]; exact fun h => absurd h.1 (by decide))]
    rw [e2] at h1
    exact h1
  · next hj => exact stamp_n h hi hk hth hj hg hm1 hm2
end Go.Proofs.Ytnmgafaebggeiaa.St
