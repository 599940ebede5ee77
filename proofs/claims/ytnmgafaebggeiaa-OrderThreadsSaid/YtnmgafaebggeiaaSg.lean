import Derived.Test.YtnmgafaebggeiaaSf
namespace Go.Proofs.Ytnmgafaebggeiaa.St
open Go.ChangeShapes Go.WideShapes Go.ChangeAt Go.RowKit Go.Maps
set_option linter.unusedVariables false
/-! ### plain -/
/-- What is kept of the kinds: what is no sync neither joins nor sets anything. -/
structure FxOk (F : Fx) : Prop where
  q : ∀ i, i < F.N → F.sy i = false → (F.X i).kd ≠ 3 ∧ (F.X i).kd ≠ 4 ∧ (F.X i).kd ≠ 5 ∧ (F.X i).kd ≠ 6
  l : ∀ k, k < 4 → (F.rows k).length ≤ 150
def St.nx (S : St) (k : Nat) : Ck := ((S.bef k).join Ck.zero).tick k
def St.plain (F : Fx) (k : Nat) : Nat → St → St
  | 0, S => S
  | n + 1, S => match (F.rows k)[S.gone k]? with
    | some i => if F.sy i = true then S else St.plain F k n (S.mark i k (S.nx k))
    | none => S
def St.same (S S' : St) : Prop := S'.mx = S.mx ∧ S'.mw = S.mw ∧ S'.ex = S.ex ∧ S'.wr = S.wr ∧ S'.beg = S.beg
theorem stamp_n {w : World} {P : Pc} {F : Fx} {S : St} (h : SmC w P F S) {i : Nat} (hi : i < F.N) {k : Nat} (hk : k < 4) (hth : (F.X i).th = (k : Nat)) (hn : ¬ (F.X i).joins) (hg : S.gone k < 1000) (hm1 : S.mx < 1000) (hm2 : S.mw < 1000) :
    Calls Try.prog 29 #[.pointer (some ⟨P.s, 0, none⟩), .int .i64 i] w fun r w' => r = .returned (.tuple #[]) ∧ SmC w' P F ((S.mark i k (((S.bef k).join (S.jn (F.X i) (F.sy i))).tick k)).kind (F.X i) (F.sy i) (((S.bef k).join (S.jn (F.X i) (F.sy i))).tick k)) ∧ Kp P.fp w w' := by
  have he : F.X i = ⟨k, (F.X i).kd, (F.X i).ob, (F.X i).sl, (F.X i).va, (F.X i).rf, (F.X i).f1, (F.X i).f2, (F.X i).tm⟩ := by
    rw [← hth]
  refine stamp_i h hi hk _ _ _ _ _ _ _ _ he _ (fun W hW => ?_) hg hm1 hm2
  have hj := joined_n hW (F.X i) (h.xs i hi).1 (F.sy i) hn
  have e : (F.X i).v = .agg #[.int .i64 k, .int .i64 (F.X i).kd, .int .i64 (F.X i).ob, .int .i64 (F.X i).sl, .int .i64 (F.X i).va, .bool (F.X i).rf, .int .i64 (F.X i).f1, .int .i64 (F.X i).f2, .int .i64 (F.X i).tm] := by
    unfold Ev.v
    rw [hth]
  rw [e] at hj
  exact hj.mono fun r W' ⟨h1, h2⟩ => ⟨h1, hW.past h2, Kp.of_below h2⟩
theorem stamp_p {w : World} {P : Pc} {F : Fx} {S : St} (h : SmC w P F S) (hF : FxOk F) {i : Nat} (hi : i < F.N) {k : Nat} (hk : k < 4) (hth : (F.X i).th = (k : Nat)) (hs : F.sy i = false) (hg : S.gone k < 1000) (hm1 : S.mx < 1000) (hm2 : S.mw < 1000) :
    Calls Try.prog 29 #[.pointer (some ⟨P.s, 0, none⟩), .int .i64 i] w fun r w' => r = .returned (.tuple #[]) ∧ SmC w' P F (S.mark i k (S.nx k)) ∧ Kp P.fp w w' := by
  obtain ⟨n3, n4, n5, n6⟩ := hF.q i hi hs
  have h1 := stamp_n h hi hk hth (fun hj => n6 hj.1) hg hm1 hm2
  have e1 : S.jn (F.X i) (F.sy i) = Ck.zero := by unfold St.jn; rw [if_neg n3, hs, if_neg (fun h => by cases h.2)]
  have e2 : ∀ (T : St) (c : Ck), T.kind (F.X i) (F.sy i) c = T := fun T c => by unfold St.kind; rw [if_neg n4, hs, if_neg (fun h => by cases h.2), if_neg (fun h => n5 h.1)]
  rw [e2, e1] at h1
  exact h1
def iof : Value → Nat
  | .int _ q => q.toNat
  | _ => 0
/-- How far a row was gone through, out of the memory. -/
def goneOf (w : World) (s k : Nat) : Nat := match w.cell? ⟨s, 3 + k, none⟩ with | some v => iof v | none => 0
theorem SmC.gof {w : World} {P : Pc} {F : Fx} {S : St} (h : SmC w P F S) {k : Nat} (hk : k < 4) : goneOf w P.s k = S.gone k := by
  unfold goneOf
  rw [h.goes hk]
  simp [iof]
theorem plain_stop {F : Fx} {k : Nat} {S : St} (h : ∀ i, (F.rows k)[S.gone k]? = some i → F.sy i = true) (n : Nat) : S.plain F k n = S := by
  cases n with
  | zero => rfl
  | succ n =>
    unfold St.plain
    split
    · next i hi => rw [if_pos (h i hi)]
    · rfl
theorem plain_next {F : Fx} {k i : Nat} {S : St} (h : (F.rows k)[S.gone k]? = some i) (hs : F.sy i = false) (n : Nat) : S.plain F k (n + 1) = (S.mark i k (S.nx k)).plain F k n := by
  conv => lhs; unfold St.plain
  rw [h]
  simp [hs]
set_option maxRecDepth 100000 in
set_option maxHeartbeats 8000000 in
theorem plain_c {w : World} {P : Pc} {F : Fx} {S : St} (h : SmC w P F S) (hF : FxOk F) {k : Nat} (hk : k < 4) (hm1 : S.mx < 1000) (hm2 : S.mw < 1000) :
    Calls Try.prog 28 #[.pointer (some ⟨P.s, 0, none⟩), .int .i64 k] w fun r w' => r = .returned (.tuple #[]) ∧ SmC w' P F (S.plain F k ((F.rows k).length - S.gone k)) ∧ Kp P.fp w w' := by
  have HH := Lib.hid h
  have HF := Lib.hid hF
  have HK := Lib.hid hk
  have hl := hF.l k hk
  have gk : (k : Int) < 4 := by omega
  have gk0 : (0 : Int) ≤ k := by omega
  clear h hF hk
  go_enter Try.func28, Try.ntmps28
  go_wp2
  go_loopw [] (fun wr => ∃ S1 : St, Hid (SmC wr P F S1) ∧ Hid (Kp P.fp w wr) ∧ Hid (S.plain F k ((F.rows k).length - S.gone k) = S1.plain F k ((F.rows k).length - S1.gone k)) ∧ S1.mx < 1000 ∧ S1.mw < 1000) (fun wr => (F.rows k).length - goneOf wr P.s k)
  case atStart => exact ⟨S, HH, Lib.hid (Kp.refl _ _), Lib.hid rfl, hm1, hm2⟩
  case round =>
    clear hm1 hm2
    obtain ⟨S1, HS, HP, HE, hm1, hm2⟩ := hrel
    have r1 := HS.out.goes HK.out
    have r2 : wr.cell? ⟨P.s, 2, none⟩ = some (.slice (some ⟨P.rb, 0, none⟩) 4 4) := HS.out.cell (by omega)
    have r3 : wr.cell? ⟨P.rb, k, none⟩ = some (P.V k) := (own_cells HS.out.rr).1 k _ (by have := HK.out; simp [this])
    have HR := Lib.hid (HS.out.rows k HK.out)
    obtain ⟨a, cap, hv, hf⟩ := own_form HR.out
    rw [hv] at r3
    have HGO := Lib.hid (HS.out.gof HK.out)
    generalize hgo : S1.gone k = go at r1
    have HG := Lib.hid hgo
    clear hgo
    by_cases hlt : go < (F.rows k).length
    · obtain ⟨g, rfl⟩ : ∃ g, a = some ⟨g, 0, none⟩ := by
        rcases hf with hf | hf
        · omega
        · exact hf
      have HV := Lib.hid hv
      obtain ⟨i, hi⟩ : ∃ i, (F.rows k)[go]? = some i := ⟨_, List.getElem?_eq_getElem hlt⟩
      have HIX := Lib.hid hi
      have HI : Hid (i < F.N ∧ (F.X i).th = (k : Nat)) := Lib.hid (HS.out.rg k HK.out i (List.mem_of_getElem? hi))
      have r4 : wr.cell? ⟨g, go, none⟩ = some (.int .i64 i) := by
        have := HR.out
        rw [hv] at this
        refine (own_cells this).1 go _ ?_
        rw [List.getElem?_map, hi]
        rfl
      have r5 : wr.cell? ⟨P.s, 1, none⟩ = some (.slice (some ⟨P.sb, 0, none⟩) F.N F.N) := HS.out.ats.1
      have r6 := HS.out.sync HI.out.1
      have g1 : (go : Int) < (F.rows k).length := by omega
      have g2 : (0 : Int) ≤ go := by omega
      have g3 : (i : Int) < F.N := by have := HI.out.1; omega
      have g4 : (0 : Int) ≤ i := by omega
      clear hv hf hi
      have HLT := Lib.hid hlt
      generalize hn : (F.rows k).length = n at *
      have HN := Lib.hid hn
      clear hn
      generalize hfn : F.N = N at r5 g3
      clear hfn
      clear hlt
      cases hsy : F.sy i with
      | true =>
        rw [hsy] at r6
        have HX : Hid (S1.plain F k (n - S1.gone k) = S1) := Lib.hid (plain_stop (fun j hj => by
          rw [HG.out, HIX.out] at hj
          injection hj with hj
          exact hj ▸ hsy) _)
        clear hsy HIX
        go_wp2
        go_quiet (fail)
        go_wp2
        go_end0
        exact ⟨rfl, by rw [HN.out, HE.out, HX.out]; exact HS.out.past (below_drewN (Below.refl _ _) _), HP.out.trans (Kp.of_below (FP := P.fp) (below_drewN (Below.refl _ _) _)) fun q hq => .inl hq⟩
      | false =>
        rw [hsy] at r6
        have HSY := Lib.hid hsy
        have hg9 : S1.gone k < 1000 := by rw [HG.out]; omega
        have HX : Hid (S1.plain F k (n - S1.gone k) = (S1.mark i k (S1.nx k)).plain F k (n - (S1.mark i k (S1.nx k)).gone k)) := Lib.hid (by
          have e1 : n - S1.gone k = (n - (S1.mark i k (S1.nx k)).gone k) + 1 := by
            show _ = n - upd S1.gone k (S1.gone k + 1) k + 1
            rw [upd_same, HG.out]
            have := HLT.out
            omega
          rw [e1]
          exact plain_next (by rw [HG.out]; exact HIX.out) hsy _)
        clear hsy HIX
        go_wp2
        go_quiet (fail)
        go_wp2
        refine region_e 16 (fun w' => w'.cell? ⟨P.s, 2, none⟩ = some (.slice (some ⟨P.rb, 0, none⟩) 4 4) ∧ w'.cell? ⟨P.rb, k, none⟩ = some (.slice (some ⟨g, 0, none⟩) n cap) ∧ w'.cell? ⟨P.s, 3 + k, none⟩ = some (.int .i64 go) ∧ w'.cell? ⟨g, go, none⟩ = some (.int .i64 i)) (by kernel_rfl) ⟨r2, r3, r1, r4⟩ (fun hHeld => ?_)
        refine AnyE.take2 (i := 0) [] (oi := { dst := some 43, op := Go.Op.move (Go.Operand.tmp 0), type := 50, pos := "stamp.go:103", after := #[], guard := none }) (v := ?_) rfl (by kernel_rfl) (by kernel_rfl) (by kernel_rfl) (by kernel_rfl) (fun _ _ _ h => h) (Or.inl ⟨by rfl, ?_⟩) (by assumption) ?_
        rotate_left
        · (intro w0 hSw; (try dsimp only at hSw); go_split_ands; go_simp; with_reducible rfl)
        try simp only [Act.put, List.setIfInBounds_toArray, List.set_cons_zero, List.set_cons_succ]
        refine AnyE.take2 (i := 1) [15, 14, 7, 6, 4, 3, 2] (oi := { dst := some 44, op := Go.Op.move (Go.Operand.tmp 0), type := 50, pos := "stamp.go:103", after := #[], guard := none }) (v := ?_) rfl (by kernel_rfl) (by kernel_rfl) (by kernel_rfl) (by kernel_rfl) (fun _ _ _ h => h) (Or.inl ⟨by rfl, ?_⟩) (by assumption) ?_
        rotate_left
        · (intro w0 hSw; (try dsimp only at hSw); go_split_ands; go_simp; with_reducible rfl)
        try simp only [Act.put, List.setIfInBounds_toArray, List.set_cons_zero, List.set_cons_succ]
        refine AnyE.take2 (i := 2) [15, 14, 7, 6, 4, 3] (oi := { dst := some 45, op := Go.Op.nilCheck (Go.Operand.tmp 44), type := 0, pos := "stamp.go:103", after := #[{ on := 1, ground := Go.Ground.data }], guard := none }) (v := ?_) rfl (by kernel_rfl) (by kernel_rfl) (by kernel_rfl) (by kernel_rfl) (fun _ _ _ h => h) (Or.inl ⟨by rfl, ?_⟩) (by assumption) ?_
        rotate_left
        · (intro w0 hSw; (try dsimp only at hSw); go_split_ands; go_simp; with_reducible rfl)
        try simp only [Act.put, List.setIfInBounds_toArray, List.set_cons_zero, List.set_cons_succ]
        refine AnyE.take2 (i := 3) [15, 14, 7, 6, 4] (oi := { dst := some 46, op := Go.Op.fieldAddr 59 (Go.Operand.tmp 45) 2, type := 0, pos := "stamp.go:103", after := #[{ on := 2, ground := Go.Ground.data }], guard := none }) (v := ?_) rfl (by kernel_rfl) (by kernel_rfl) (by kernel_rfl) (by kernel_rfl) (fun _ _ _ h => h) (Or.inl ⟨by rfl, ?_⟩) (by assumption) ?_
        rotate_left
        · (intro w0 hSw; (try dsimp only at hSw); go_split_ands; go_simp; with_reducible rfl)
        try simp only [Act.put, List.setIfInBounds_toArray, List.set_cons_zero, List.set_cons_succ]
        refine AnyE.take2 (i := 4) [15, 14, 7, 6] (oi := { dst := some 47, op := Go.Op.load 52 (Go.Operand.tmp 46), type := 52, pos := "stamp.go:103", after := #[{ on := 3, ground := Go.Ground.data }], guard := none }) (v := ?_) rfl (by kernel_rfl) (by kernel_rfl) (by kernel_rfl) (by kernel_rfl) (fun _ _ _ h => h) (Or.inl ⟨by rfl, ?_⟩) (by assumption) ?_
        rotate_left
        · (intro w0 hSw; (try dsimp only at hSw); go_split_ands; go_simp; with_reducible rfl)
        try simp only [Act.put, List.setIfInBounds_toArray, List.set_cons_zero, List.set_cons_succ]
        refine AnyE.take2 (i := 5) [15, 14, 7, 6] (oi := { dst := some 48, op := Go.Op.move (Go.Operand.tmp 1), type := 3, pos := "stamp.go:103", after := #[], guard := none }) (v := ?_) rfl (by kernel_rfl) (by kernel_rfl) (by kernel_rfl) (by kernel_rfl) (fun _ _ _ h => h) (Or.inl ⟨by rfl, ?_⟩) (by assumption) ?_
        rotate_left
        · (intro w0 hSw; (try dsimp only at hSw); go_split_ands; go_simp; with_reducible rfl)
        try simp only [Act.put, List.setIfInBounds_toArray, List.set_cons_zero, List.set_cons_succ]
        refine AnyE.take2 (i := 6) [15, 14, 7] (oi := { dst := some 49, op := Go.Op.indexAddr 52 (Go.Operand.tmp 47) (Go.Operand.tmp 48), type := 0, pos := "stamp.go:103", after := #[{ on := 4, ground := Go.Ground.data }, { on := 5, ground := Go.Ground.data }], guard := none }) (v := ?_) rfl (by kernel_rfl) (by kernel_rfl) (by kernel_rfl) (by kernel_rfl) (fun _ _ _ h => h) (Or.inl ⟨by rfl, ?_⟩) (by assumption) ?_
        rotate_left
        · (intro w0 hSw; (try dsimp only at hSw); go_split_ands; go_simp; with_reducible rfl)
        try simp only [Act.put, List.setIfInBounds_toArray, List.set_cons_zero, List.set_cons_succ]
        refine AnyE.take2 (i := 7) [15, 14] (oi := { dst := some 50, op := Go.Op.load 61 (Go.Operand.tmp 49), type := 61, pos := "stamp.go:103", after := #[{ on := 6, ground := Go.Ground.data }], guard := none }) (v := ?_) rfl (by kernel_rfl) (by kernel_rfl) (by kernel_rfl) (by kernel_rfl) (fun _ _ _ h => h) (Or.inl ⟨by rfl, ?_⟩) (by assumption) ?_
        rotate_left
        · (intro w0 hSw; (try dsimp only at hSw); go_split_ands; go_simp; with_reducible rfl)
        try simp only [Act.put, List.setIfInBounds_toArray, List.set_cons_zero, List.set_cons_succ]
        refine AnyE.take2 (i := 8) [15, 14, 13, 12, 11, 10] (oi := { dst := some 51, op := Go.Op.move (Go.Operand.tmp 0), type := 50, pos := "stamp.go:103", after := #[], guard := none }) (v := ?_) rfl (by kernel_rfl) (by kernel_rfl) (by kernel_rfl) (by kernel_rfl) (fun _ _ _ h => h) (Or.inl ⟨by rfl, ?_⟩) (by assumption) ?_
        rotate_left
        · (intro w0 hSw; (try dsimp only at hSw); go_split_ands; go_simp; with_reducible rfl)
        try simp only [Act.put, List.setIfInBounds_toArray, List.set_cons_zero, List.set_cons_succ]
        refine AnyE.take2 (i := 9) [15, 14, 13, 12] (oi := { dst := some 52, op := Go.Op.move (Go.Operand.tmp 1), type := 3, pos := "stamp.go:103", after := #[], guard := none }) (v := ?_) rfl (by kernel_rfl) (by kernel_rfl) (by kernel_rfl) (by kernel_rfl) (fun _ _ _ h => h) (Or.inl ⟨by rfl, ?_⟩) (by assumption) ?_
        rotate_left
        · (intro w0 hSw; (try dsimp only at hSw); go_split_ands; go_simp; with_reducible rfl)
        try simp only [Act.put, List.setIfInBounds_toArray, List.set_cons_zero, List.set_cons_succ]
        refine AnyE.take2 (i := 10) [15, 14, 13, 12, 11] (oi := { dst := some 53, op := Go.Op.nilCheck (Go.Operand.tmp 51), type := 0, pos := "stamp.go:103", after := #[{ on := 8, ground := Go.Ground.data }], guard := none }) (v := ?_) rfl (by kernel_rfl) (by kernel_rfl) (by kernel_rfl) (by kernel_rfl) (fun _ _ _ h => h) (Or.inl ⟨by rfl, ?_⟩) (by assumption) ?_
        rotate_left
        · (intro w0 hSw; (try dsimp only at hSw); go_split_ands; go_simp; with_reducible rfl)
        try simp only [Act.put, List.setIfInBounds_toArray, List.set_cons_zero, List.set_cons_succ]
        refine AnyE.take2 (i := 11) [15, 14, 13, 12] (oi := { dst := some 54, op := Go.Op.fieldAddr 59 (Go.Operand.tmp 53) 3, type := 0, pos := "stamp.go:103", after := #[{ on := 10, ground := Go.Ground.data }], guard := none }) (v := ?_) rfl (by kernel_rfl) (by kernel_rfl) (by kernel_rfl) (by kernel_rfl) (fun _ _ _ h => h) (Or.inl ⟨by rfl, ?_⟩) (by assumption) ?_
        rotate_left
        · (intro w0 hSw; (try dsimp only at hSw); go_split_ands; go_simp; with_reducible rfl)
        try simp only [Act.put, List.setIfInBounds_toArray, List.set_cons_zero, List.set_cons_succ]
        refine AnyE.take2 (i := 12) [15, 14, 13] (oi := { dst := some 55, op := Go.Op.indexAddr 24 (Go.Operand.tmp 54) (Go.Operand.tmp 52), type := 0, pos := "stamp.go:103", after := #[{ on := 11, ground := Go.Ground.data }, { on := 9, ground := Go.Ground.data }], guard := none }) (v := ?_) rfl (by kernel_rfl) (by kernel_rfl) (by kernel_rfl) (by kernel_rfl) (fun _ _ _ h => h) (Or.inl ⟨by rfl, ?_⟩) (by assumption) ?_
        rotate_left
        · (intro w0 hSw; (try dsimp only at hSw); go_split_ands; go_simp; with_reducible rfl)
        try simp only [Act.put, List.setIfInBounds_toArray, List.set_cons_zero, List.set_cons_succ]
        refine AnyE.take2 (i := 13) [15, 14] (oi := { dst := some 56, op := Go.Op.load 3 (Go.Operand.tmp 55), type := 3, pos := "stamp.go:103", after := #[{ on := 12, ground := Go.Ground.data }], guard := none }) (v := ?_) rfl (by kernel_rfl) (by kernel_rfl) (by kernel_rfl) (by kernel_rfl) (fun _ _ _ h => h) (Or.inl ⟨by rfl, ?_⟩) (by assumption) ?_
        rotate_left
        · (intro w0 hSw; (try dsimp only at hSw); go_split_ands; go_simp; with_reducible rfl)
        try simp only [Act.put, List.setIfInBounds_toArray, List.set_cons_zero, List.set_cons_succ]
        refine AnyE.take2 (i := 14) [15] (oi := { dst := some 57, op := Go.Op.indexAddr 61 (Go.Operand.tmp 50) (Go.Operand.tmp 56), type := 0, pos := "stamp.go:103", after := #[{ on := 7, ground := Go.Ground.data }, { on := 13, ground := Go.Ground.data }], guard := none }) (v := ?_) rfl (by kernel_rfl) (by kernel_rfl) (by kernel_rfl) (by kernel_rfl) (fun _ _ _ h => h) (Or.inl ⟨by rfl, ?_⟩) (by assumption) ?_
        rotate_left
        · (intro w0 hSw; (try dsimp only at hSw); go_split_ands; go_simp; with_reducible rfl)
        try simp only [Act.put, List.setIfInBounds_toArray, List.set_cons_zero, List.set_cons_succ]
        refine AnyE.take2 (i := 15) [] (oi := { dst := some 58, op := Go.Op.load 3 (Go.Operand.tmp 57), type := 3, pos := "stamp.go:103", after := #[{ on := 14, ground := Go.Ground.data }], guard := none }) (v := ?_) rfl (by kernel_rfl) (by kernel_rfl) (by kernel_rfl) (by kernel_rfl) (fun _ _ _ h => h) (Or.inl ⟨by rfl, ?_⟩) (by assumption) ?_
        rotate_left
        · (intro w0 hSw; (try dsimp only at hSw); go_split_ands; go_simp; with_reducible rfl)
        try simp only [Act.put, List.setIfInBounds_toArray, List.set_cons_zero, List.set_cons_succ]
        refine AnyE.ready (rs := [16]) (by kernel_rfl) (by simp) ?_
        refine AllE.last (o := { dst := some 59, op := Go.Op.call { callee := Go.Callee.value (Go.Operand.func 29), args := #[Go.Operand.tmp 43, Go.Operand.tmp 58], argTypes := #[50, 3] }, type := 0, pos := "stamp.go:103", after := #[{ on := 0, ground := Go.Ground.data }, { on := 15, ground := Go.Ground.data }], guard := none }) rfl (by kernel_rfl) (fun K hK => ?_)
        clear hHeld
        go_simp
        go_at_call 29
        refine (stamp_p (HS.out.past (below_drewN (Below.refl wr.heap.size wr) nq).drew) HF.out HI.out.1 HK.out HI.out.2 HSY.out (by omega) (by omega) (by omega)).mono ?_
        rintro e W' ⟨rfl, hS', hK'⟩
        refine hK.out _ _ ?_
        clear hK K
        go_wp2
        have HS2 := Lib.hid hS'
        have HP2 := Lib.hid (HP.out.trans ((Kp.of_below (FP := P.fp) (below_drewN (Below.refl wr.heap.size wr) nq).drew).trans hK' fun q hq => .inl hq) fun q hq => .inl hq)
        have hgm : (S1.mark i k (S1.nx k)).gone k = go + 1 := by show upd S1.gone k (S1.gone k + 1) k = _; rw [upd_same, HG.out]
        have hg1 := HGO.out
        have hg2 := hS'.gof HK.out
        have hlt := HLT.out
        exact ⟨⟨S1.mark i k (S1.nx k), HS2, HP2, Lib.hid (HE.out.trans HX.out), hm1, hm2⟩, by rw [hg1, hg2, hgm, HG.out]; omega⟩
    · have HLT := Lib.hid hlt
      have d1 : decide (go < (F.rows k).length) = false := decide_eq_false hlt
      have HX : Hid (S1.plain F k ((F.rows k).length - S1.gone k) = S1) := Lib.hid (plain_stop (fun j hj => by
          rw [HG.out] at hj
          exact absurd (List.getElem?_eq_some_iff.1 hj).1 HLT.out) _)
      clear hlt hv hf
      generalize hn : (F.rows k).length = n at *
      have HN := Lib.hid hn
      clear hn
      go_wp2
      go_quiet (fail)
      go_wp2
      go_end0
      exact ⟨rfl, by rw [HN.out, HE.out, HX.out]; exact HS.out.past (below_drewN (Below.refl _ _) _), HP.out.trans (Kp.of_below (FP := P.fp) (below_drewN (Below.refl _ _) _)) fun q hq => .inl hq⟩
end Go.Proofs.Ytnmgafaebggeiaa.St
