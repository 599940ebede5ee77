import Derived.Test.YtjcbhomfggjmhaaIg
namespace Go.Proofs.Ytjcbhomfggjmhaa.Mm
open Go.ChangeShapes Go.WideShapes Go.ChangeAt Go.RowKit Go.Maps
set_option linter.unusedVariables false
def cntL (l : List (Int × Nat)) (c : Int) : Nat → Nat
  | 0 => 0
  | j + 1 => cntL l c j + if (l.getD j (0, 0)).1 = c then 1 else 0
def cntS (S : Sd) (c : Int) : Nat → Nat
  | 0 => 0
  | d + 1 => cntS S c d + cntL (S.Wt d) c (S.Wt d).length
theorem cntL_le (l : List (Int × Nat)) (c : Int) : ∀ j, cntL l c j ≤ j
  | 0 => Nat.le_refl _
  | j + 1 => by
    have := cntL_le l c j
    unfold cntL
    split <;> omega
theorem cntS_le {S : Sd} {c : Int} (h : ∀ d, d < S.n → (S.Wt d).length ≤ 1000000) : ∀ d, d ≤ S.n → cntS S c d ≤ d * 1000000
  | 0, _ => Nat.le_refl _
  | d + 1, hd => by
    have h1 := cntS_le (c := c) h d (by omega)
    have h2 := h d (by omega)
    have h3 := cntL_le (S.Wt d) c (S.Wt d).length
    unfold cntS
    omega
theorem invL_get (l : List (Int × Nat)) (j : Nat) (hj : j < l.length) : (invL l)[j * 2]? = some (.int .i64 (l.getD j (0, 0)).1) ∧ (invL l)[j * 2 + 1]? = some (.int .u64 ((l.getD j (0, 0)).2 : Nat)) := by
  have h1 := invL_drop l j
  have e : (invL l).drop (j * 2) = [.int .i64 (l.getD j (0, 0)).1, .int .u64 ((l.getD j (0, 0)).2 : Nat)] ++ invL (l.drop (j + 1)) := by
    rw [h1, List.drop_eq_getElem_cons hj]
    have : l.getD j (0, 0) = l[j] := by rw [List.getD_eq_getElem?_getD, List.getElem?_eq_getElem hj]; rfl
    rw [this]
    rfl
  constructor
  · have h2 : ((invL l).drop (j * 2))[0]? = some (.int .i64 (l.getD j (0, 0)).1) := by rw [e]; rfl
    rw [List.getElem?_drop] at h2
    exact h2
  · have h2 : ((invL l).drop (j * 2))[1]? = some (.int .u64 ((l.getD j (0, 0)).2 : Nat)) := by rw [e]; rfl
    rw [List.getElem?_drop] at h2
    exact h2
section
variable {w : World} {lo : Nat → Prop} {p : Nat} {L : Pl} {V : Nat → Value} {S : Sd}
set_option maxRecDepth 100000 in
set_option maxHeartbeats 4000000 in
theorem pending_c (h : SdC w lo p L V S) (c : Int) (hwl : ∀ d, d < S.n → (S.Wt d).length ≤ 1000000) :
    Calls Try.prog 19 #[.pointer (some ⟨p, 0, none⟩), .int .i64 c] w fun e w' => e = .returned (.int .i64 (cntS S c S.n : Nat)) ∧ Below w.heap.size w w' := by
  have H := Lib.hid h
  have c4 := h.cells.2.2.2.2
  have hn4 := h.n4.2
  have HWL := Lib.hid hwl
  have HCL : Hid (∀ d, d ≤ S.n → cntS S c d ≤ 4000000) := Lib.hid (fun d hd => by have := cntS_le (c := c) hwl d hd; omega)
  clear h hwl
  go_enter Try.func19, Try.ntmps19
  go_wp2
  go_loopw [5, 7, 9, 15] (fun s5 _ _ s15 wr => ∃ d : Nat, d ≤ S.n ∧ s15 = .int .i64 d ∧ s5 = .int .i64 (cntS S c d : Nat) ∧ Hid (Below w.heap.size w wr)) (fun _ _ _ s15 _ => S.n + 1 - (intOf s15).toNat)
  case atStart => exact ⟨0, by omega, rfl, rfl, Lib.hid (Below.refl _ _)⟩
  case round =>
    obtain ⟨d, hd, rfl, rfl, HB⟩ := hrel
    by_cases hlt : d < S.n
    · have HSr := Lib.hid (H.out.past HB.out)
      have gd : (d : Int) < S.n := by omega
      have cw := (HSr.out.wcell hlt).1
      obtain ⟨a, cp, hv, ha⟩ := own_form (HSr.out.rows d hlt)
      have hrow := HSr.out.rows d hlt
      have hvb := hrow.lt
      rw [hv] at cw hrow hvb
      have HRW := Lib.hid hrow
      have HVB := Lib.hid hvb
      have hlb := HWL.out d hlt
      have hcb := HCL.out d hd
      have HST : Hid (cntS S c (d + 1) = cntS S c d + cntL (S.Wt d) c (S.Wt d).length) := Lib.hid rfl
      clear hrow hv hvb
      generalize hq : cntS S c d = q at hcb HST ⊢
      obtain ⟨l, hl⟩ : ∃ l, S.Wt d = l := ⟨_, rfl⟩
      rw [hl] at cw ha HRW HVB hlb HST
      clear hl hq
      obtain ⟨wo, rfl⟩ : ∃ wo : World, wo = wr := ⟨_, rfl⟩
      go_wp2
      go_loopw [5, 9, 21] (fun s5 _ s21 w2 => ∃ j : Nat, j ≤ l.length ∧ s21 = .int .i64 j ∧ s5 = .int .i64 (q + cntL l c j : Nat) ∧ Hid (Below wo.heap.size wo w2)) (fun _ _ s21 _ => l.length + 1 - (intOf s21).toNat)
      case atStart => exact ⟨0, by omega, rfl, rfl, Lib.hid (Below.refl _ _)⟩
      case round =>

        obtain ⟨j, hj, rfl, rfl, HB2⟩ := hrel
        by_cases hlj : j < l.length
        · obtain ⟨g, rfl⟩ : ∃ g, a = some ⟨g, 0, none⟩ := by
            rcases ha with ha | ha
            · omega
            · exact ha
          obtain ⟨i1, i2⟩ := invL_get l j hlj
          have hr2 := own_past HRW.out HB2.out
          have e0 := (own_cells hr2).1 _ _ i1
          have e1 := (own_cells hr2).1 _ _ i2
          have gj : (j : Int) < l.length := by omega
          have hcl := cntL_le l c j
          have HCS : Hid (cntL l c (j + 1) = cntL l c j + if (l.getD j (0, 0)).1 = c then 1 else 0) := Lib.hid rfl
          generalize l.getD j (0, 0) = y at e0 e1 HCS
          generalize cntL l c j = r at hcl HCS ⊢
          have HBn : Hid (Below wo.heap.size wo (wr.alloc (.cells #[.int .i64 y.1, .int .u64 (y.2 : Nat)] 105))) := Lib.hid (HB2.out.alloc HB2.out.size _)
          clear hr2 i1 i2
          by_cases hyc : y.1 = c
          · have HZ : Hid (cntL l c (j + 1) = r + 1) := Lib.hid (by rw [HCS.out, if_pos hyc])
            have q1 : (y.1 == c) = true := by simpa using hyc
            have hw : IntKind.i64.wrap (((q + r : Nat) : Int) + 1) = ((q + r : Nat) : Int) + 1 := by rw [IntKind.wrap_i64]; omega
            clear hyc
            go_wp2
            exact ⟨⟨j + 1, by omega, by go_num, by rw [HZ.out]; go_num, HBn⟩, by simp [intOf]; omega⟩
          · have HZ : Hid (cntL l c (j + 1) = r) := Lib.hid (by rw [HCS.out, if_neg hyc]; rfl)
            have q1 : (y.1 == c) = false := by simpa using hyc
            clear hyc
            go_wp2
            exact ⟨⟨j + 1, by omega, by go_num, by rw [HZ.out], HBn⟩, by simp [intOf]; omega⟩
        · have hjl : j = l.length := by omega
          rw [hjl]
          rw [← HST.out]
          go_wp2
          exact ⟨⟨d + 1, by omega, by go_num, rfl, Lib.hid (HB.out.trans (HB2.out.mono HB.out.size))⟩, by simp [intOf]; omega⟩
    · have hdn : d = S.n := by omega
      rw [hdn]
      go_wp2
      go_ret
      exact ⟨rfl, HB.out⟩
end
end Go.Proofs.Ytjcbhomfggjmhaa.Mm
