import Derived.Test.YtjcbhomfggjmhaaRj
namespace Go.Proofs.Ytjcbhomfggjmhaa.Mm
open Go.ChangeShapes Go.WideShapes Go.ChangeAt Go.RowKit Go.Maps
set_option linter.unusedVariables false
def ivN (R : Rs) (c : Int) (x j : Nat) : List Iv := (List.range j).map fun i => ⟨i, c, x / 64⟩
theorem ivN_succ (R : Rs) (c : Int) (x j : Nat) : ivN R c x (j + 1) = ivN R c x j ++ [⟨j, c, x / 64⟩] := by unfold ivN; rw [List.range_succ, List.map_append]; rfl
theorem ivN_len (R : Rs) (c : Int) (x j : Nat) : (ivN R c x j).length = j := by unfold ivN; simp
def Rs.withW (R : Rs) (l : List Iv) : Rs := { R with wt := l }
theorem withW_facts (R : Rs) (l : List Iv) : ((R.withW l).n = R.n ∧ (R.withW l).T = R.T) ∧ (∀ i, i < 4 → i ≠ 3 → (R.withW l).len i = R.len i ∧ (R.withW l).cel i = R.cel i) ∧ (R.withW l).len 3 = l.length ∧ (R.withW l).cel 3 = ivL l := by
  refine ⟨⟨rfl, rfl⟩, fun i hi hne => ?_, rfl, rfl⟩
  have : i = 0 ∨ i = 1 ∨ i = 2 := by omega
  rcases this with rfl | rfl | rfl <;> exact ⟨rfl, rfl⟩
def Rs.rinval (R : Rs) (c : Int) (x : Nat) : Rs := if isR R c then R.withW (R.wt ++ ivN R c x R.n) else R
section
variable {w w' : World} {lo : Nat → Prop} {p : Nat} {L : Rl} {V : Nat → Value} {R R' : Rs}
set_option maxRecDepth 100000 in
set_option maxHeartbeats 4000000 in
theorem rinval_c (h : RsC w lo p L V R) (c : Int) {x : Nat} (hx : x < 18446744073709551616) (hs : R.wt.length + 4 ≤ 1000000) :
    Calls Try.prog 37 #[.pointer (some ⟨p, 0, none⟩), .int .i64 c, .int .u64 (x : Nat)] w fun e w' => e = .returned (.int .i64 (if isR R c then 0 else 1 : Nat)) ∧ (∃ V', RsC w' lo p L V' (R.rinval c x)) ∧ Sv lo w w' := by
  have HI := Lib.hid (is_c h c)
  have H := Lib.hid h
  by_cases hc : isR R c
  · have d : decide (isR R c) = true := decide_eq_true hc
    rw [d] at HI
    have HV : Hid (R.rinval c x = R.withW (R.wt ++ ivN R c x R.n)) := Lib.hid (if_pos hc)
    rw [HV.out, if_pos hc]
    have HS0 : Hid (RsC w lo p L V (R.withW (R.wt ++ ivN R c x 0))) := Lib.hid (by
      show RsC w lo p L V { R with wt := R.wt ++ [] }
      rw [List.append_nil]; exact h)
    have hq1 : (x : Int) / 64 = ((x / 64 : Nat) : Int) := by omega
    have hq2 : (x : Int).tdiv 64 = ((x / 64 : Nat) : Int) := by rw [Int.tdiv_eq_ediv_of_nonneg (by omega)]; omega
    have HXV : Hid (∀ j, ivN R c x (j + 1) = ivN R c x j ++ [⟨j, c, x / 64⟩]) := Lib.hid (ivN_succ R c x)
    generalize x / 64 = y at hq1 hq2 HXV
    have HN4 := Lib.hid h.n4
    have HLS := Lib.hid hs
    have hn4 := h.n4.2
    clear h hc d hs HV
    go_enter Try.func37, Try.ntmps37
    go_wp2_with (go_at_call 63; refine HI.out.mono ?_; rintro e w1 ⟨rfl, h1⟩; obtain rfl := h1.symm)
    clear HI
    go_loopw [7] (fun s7 wr => ∃ (j : Nat) (V' : Nat → Value), j ≤ R.n ∧ s7 = .int .i64 j ∧ Hid (RsC wr lo p L V' (R.withW (R.wt ++ ivN R c x j))) ∧ Hid (Sv lo w wr)) (fun s7 _ => R.n + 1 - (intOf s7).toNat)
    case atStart => exact ⟨0, V, by omega, rfl, HS0, Lib.hid (Sv.refl _ _)⟩
    case round =>
      obtain ⟨j, V', hj, rfl, HS, HB⟩ := hrel
      by_cases hlt : j < R.n
      · obtain ⟨_, c1, _, _, _, c5⟩ := HS.out.cells
        have c1 : wr.cell? ⟨p, 1, none⟩ = some (.int .i64 (R.n : Nat)) := c1
        have gj : (j : Int) < R.n := by omega
        obtain ⟨q1, q2, q3, q4⟩ := withW_facts (R.withW (R.wt ++ ivN R c x j)) (R.wt ++ ivN R c x (j + 1))
        obtain ⟨v', w4, hr, k1, k2, ⟨a4, n4, cp4, rfl⟩, hp, hb⟩ := HS.out.pushG (R' := R.withW (R.wt ++ ivN R c x (j + 1))) (k := 3) (by omega) (.int .i64 (j : Nat)) (.int .i64 c) (.int .u64 (y : Nat)) (fun u hu => by simp only [List.mem_cons, List.not_mem_nil, or_false] at hu; rcases hu with rfl | rfl | rfl <;> rfl) q1 q2 (by show (R.wt ++ ivN R c x (j + 1)).length = (R.wt ++ ivN R c x j).length + 1; rw [HXV.out, ← List.append_assoc, List.length_append]; rfl) (by show ivL (R.wt ++ ivN R c x (j + 1)) = ivL (R.wt ++ ivN R c x j) ++ _; rw [HXV.out, ← List.append_assoc, ivL_app]; rfl) (by show (R.wt ++ ivN R c x j).length < 1000000; rw [List.length_append, ivN_len]; have := HLS.out; omega)
        obtain ⟨a7, cp7, hv7⟩ := HS.out.rowsK (k := 3) (by omega)
        rw [hv7] at k1 c5 hr
        have hr : (Builtin.append_ #[83, 83] 83 #[.slice a7 _ cp7, .slice (some ⟨wr.heap.size, 0, none⟩) 1 1]).run Try.prog (wr.alloc (.cells #[.int .i64 (j : Nat), .int .i64 c, .int .u64 (y : Nat)] 118)) = _ := hr
        have HR := Lib.hid hr
        obtain ⟨V'', hp⟩ := hp
        have HP : Hid (RsC (w4.setCell ⟨p, 5, none⟩ (.slice a4 n4 cp4)) lo p L V'' _) := Lib.hid hp
        have HB4 : Hid (Sv lo w (w4.setCell ⟨p, 5, none⟩ (.slice a4 n4 cp4))) := Lib.hid (HB.out.trans hb)
        have k3 : w4.cell? ⟨p, 5, none⟩ = some (.slice a7 _ cp7) := k1
        have k4 : w4.frozen? ⟨p, 5, none⟩ = false := k2
        clear hr hp hb k1 k2 hv7 q1 q2 q3 q4
        go_wp2_with (at_builtin; refine wpList_append_run' rfl _ _ _ rfl _ _ _ _ rfl rfl HR.out ?_)
        exact ⟨⟨j + 1, V'', by omega, by go_num, HP, HB4⟩, by simp [intOf]; omega⟩
      · have hjn : j = R.n := by omega
        subst hjn
        obtain ⟨_, c1, _⟩ := HS.out.cells
        have c1 : wr.cell? ⟨p, 1, none⟩ = some (.int .i64 (R.n : Nat)) := c1
        go_wp2
        go_ret
        exact ⟨rfl, ⟨_, HS.out⟩, HB.out⟩
  · have d : decide (isR R c) = false := decide_eq_false hc
    rw [d] at HI
    have HV : Hid (R.rinval c x = R) := Lib.hid (if_neg hc)
    rw [HV.out, if_neg hc]
    clear h hc d HV
    go_enter Try.func37, Try.ntmps37
    go_wp2_with (go_at_call 63; refine HI.out.mono ?_; rintro e w1 ⟨rfl, h1⟩; obtain rfl := h1.symm)
    go_ret
    exact ⟨rfl, ⟨V, H.out⟩, Sv.refl _ _⟩
/-! ### Sync -/
def Rs.rsync (R : Rs) (c : Int) : Rs := if isR R c then { R with ahead := R.ahead.filter fun y => y.c != c } else R
theorem filt_step {α : Type} (q : α → Bool) (z : α) (l : List α) (j : Nat) (hj : j < l.length) : (l.take (j + 1)).filter q = (l.take j).filter q ++ (if q (l.getD j z) = true then [l.getD j z] else []) := by
  have e : l.getD j z = l[j] := by rw [List.getD_eq_getElem?_getD, List.getElem?_eq_getElem hj]; rfl
  rw [List.take_succ_eq_append_getElem hj, List.filter_append, e]
  congr 1
  rw [List.filter_cons, List.filter_nil]
theorem filt_len {α : Type} (q : α → Bool) (l : List α) (j : Nat) : ((l.take j).filter q).length ≤ l.length := Nat.le_trans (List.length_filter_le _ _) (by rw [List.length_take]; omega)
/-- A cell that is kept is put to those that are kept. -/
theorem keep_c {w wr : World} {v5 : Value} {F : List Cl} (hb : Below w.heap.size w wr) (ho : wr.ownsRow w.heap.size 115 3 v5 F.length (clL F)) (hl : F.length < 1000000) (y : Cl) :
    ∃ v' w4, (Builtin.append_ #[82, 82] 82 #[v5, .slice (some ⟨wr.heap.size, 0, none⟩) 1 1]).run Try.prog (wr.alloc (.cells #[.int .i64 y.c, .int .u64 (y.a : Nat), .int .u32 (y.w : Nat)] 115)) = .ok v' w4 ∧ w4.ownsRow w.heap.size 115 3 v' (F ++ [y]).length (clL (F ++ [y])) ∧ Below w.heap.size w w4 := by
  have hW : Below wr.heap.size wr (wr.alloc (.cells #[.int .i64 y.c, .int .u64 (y.a : Nat), .int .u32 (y.w : Nat)] 115)) := (Below.refl _ _).alloc (Nat.le_refl _) _
  have hn : ∀ q u', ([.int .i64 y.c, .int .u64 (y.a : Nat), .int .u32 (y.w : Nat)] : List Value)[q]? = some u' → (wr.alloc (.cells #[.int .i64 y.c, .int .u64 (y.a : Nat), .int .u32 (y.w : Nat)] 115)).cell? ((⟨wr.heap.size, 0, none⟩ : Addr).add q) = some u' := fun q u' hu => by
    rw [Go.WideShapes.add_plain, Nat.zero_add, World.cell?_alloc_at _ _ _ _ rfl, ← Array.getElem?_toList]
    exact hu
  obtain ⟨v', w4, hr, ho4, hg, _⟩ := app_c el115 _ w.heap.size F.length 1 v5 (.slice (some ⟨wr.heap.size, 0, none⟩) 1 1) (clL F) _ (own_past ho hW) ⟨_, _, rfl, rfl, hn, clL_one [y]⟩ (by omega) (Nat.le_trans hb.size hW.size)
  exact ⟨v', w4, hr, by rw [clL_app, List.length_append]; exact ho4, (hb.trans (hW.mono hb.size)).grown hg (Nat.le_trans hb.size hW.size) (fun q hq => (ho.lt q hq).1)⟩
set_option maxRecDepth 100000 in
set_option maxHeartbeats 4000000 in
theorem rsync_c (h : RsC w lo p L V R) (c : Int) :
    Calls Try.prog 40 #[.pointer (some ⟨p, 0, none⟩), .int .i64 c] w fun e w' => e = .returned (.int .i64 (if isR R c then 0 else 1 : Nat)) ∧ (∃ V', RsC w' lo p L V' (R.rsync c)) ∧ Sv lo w w' := by
  have HI := Lib.hid (is_c h c)
  have H := Lib.hid h
  by_cases hc : isR R c
  · have d : decide (isR R c) = true := decide_eq_true hc
    rw [d] at HI
    have HV : Hid (R.rsync c = R.setL 2 (R.ahead.filter fun y => y.c != c)) := Lib.hid (if_pos hc)
    rw [HV.out, if_pos hc]
    have HLS : Hid (R.ahead.length ≤ 1000000) := Lib.hid (h.small 2 (by omega))
    have hls := HLS.out
    clear h hc d HV
    go_enter Try.func40, Try.ntmps40
    go_wp2_with (go_at_call 63; refine HI.out.mono ?_; rintro e w1 ⟨rfl, h1⟩; obtain rfl := h1.symm)
    clear HI
    go_loopw [5, 6] (fun s5 s6 wr => ∃ j : Nat, j ≤ R.ahead.length ∧ s6 = .int .i64 j ∧ Hid (wr.ownsRow w.heap.size 115 3 s5 ((R.ahead.take j).filter fun y => y.c != c).length (clL ((R.ahead.take j).filter fun y => y.c != c))) ∧ Hid (Below w.heap.size w wr)) (fun _ s6 _ => R.ahead.length + 1 - (intOf s6).toNat)
    case atStart => exact ⟨0, by omega, rfl, Lib.hid ⟨rfl, .inl ⟨rfl, rfl⟩⟩, Lib.hid (Below.refl _ _)⟩
    case round =>
      obtain ⟨j, hj, rfl, HO, HB⟩ := hrel
      have HS := Lib.hid (H.out.past HB.out)
      obtain ⟨_, _, _, _, c4, _⟩ := HS.out.cells
      obtain ⟨pa, cp, hv, hf⟩ := own_form HS.out.row2
      rw [hv] at c4
      by_cases hlt : j < R.ahead.length
      · obtain ⟨g, rfl⟩ : ∃ g, pa = some ⟨g, 0, none⟩ := by
          rcases hf with hf | hf
          · omega
          · exact hf
        have HR2 := Lib.hid HS.out.row2
        rw [hv] at HR2
        obtain ⟨i1, i2, i3⟩ := clL_get R.ahead j hlt
        have e1 := (own_cells HR2.out).1 _ _ i1
        have e2 := (own_cells HR2.out).1 _ _ i2
        have e3 := (own_cells HR2.out).1 _ _ i3
        have gj : (j : Int) < R.ahead.length := by omega
        have HST := Lib.hid (filt_step (fun y : Cl => y.c != c) cz R.ahead j hlt)
        have HFL := Lib.hid (filt_len (fun y : Cl => y.c != c) R.ahead j)
        have hFl : ((R.ahead.take j).filter fun y => y.c != c).length < 1000000 := by
          have : ((R.ahead.take j).filter fun y => y.c != c).length ≤ (R.ahead.take j).length := List.length_filter_le _ _
          rw [List.length_take] at this
          omega
        generalize R.ahead.getD j cz = y at e1 e2 e3 HST
        clear i1 i2 i3 hv hf
        by_cases hyc : y.c = c
        · have q1 : (y.c != c) = false := by simp [hyc]
          have q2 : (y.c == c) = true := by simp [hyc]
          have HF : Hid ((R.ahead.take (j + 1)).filter (fun y => y.c != c) = (R.ahead.take j).filter fun y => y.c != c) := Lib.hid (by rw [HST.out, if_neg (by rw [q1]; exact Bool.false_ne_true), List.append_nil])
          clear hyc hFl
          go_wp2
          exact ⟨⟨j + 1, by omega, by go_num, by rw [HF.out]; exact HO, HB⟩, by simp [intOf]; omega⟩
        · have q1 : (y.c != c) = true := by simpa using hyc
          have q2 : (y.c == c) = false := by simpa using hyc
          have HF : Hid ((R.ahead.take (j + 1)).filter (fun y => y.c != c) = ((R.ahead.take j).filter fun y => y.c != c) ++ [y]) := Lib.hid (by rw [HST.out, if_pos q1])
          obtain ⟨v', w4, hr, ho4, hb4⟩ := keep_c HB.out HO.out hFl y
          have HR := Lib.hid hr
          have HO4 := Lib.hid ho4
          have HB4 := Lib.hid hb4
          clear hyc hFl hr ho4 hb4
          go_wp2_with (at_builtin; refine wpList_append_run' rfl _ _ _ rfl _ _ _ _ rfl rfl HR.out ?_)
          exact ⟨⟨j + 1, by omega, by go_num, by rw [HF.out]; exact HO4, HB4⟩, by simp [intOf]; omega⟩
      · have hjn : j = R.ahead.length := by omega
        subst hjn
        have ho := HO.out
        rw [List.take_length] at ho
        obtain ⟨k1, k2, hp, hb⟩ := H.out.lay (k := 2) (by omega) HB.out ho (Nat.le_trans (List.length_filter_le _ _) hls)
        obtain ⟨a7, cp7, hv7⟩ := H.out.rowsK (k := 2) (by omega)
        rw [hv7] at k1
        obtain ⟨a4, cp4, rfl, _⟩ := own_form ho
        have HP : Hid (∃ V', RsC (wr.setCell ⟨p, 4, none⟩ _) lo p L V' _) := Lib.hid hp
        have HB4 : Hid (Sv lo w (wr.setCell ⟨p, 4, none⟩ _)) := Lib.hid hb
        have k4 : wr.frozen? ⟨p, 4, none⟩ = false := k2
        clear hp hb k1 k2 ho hv7 hf hv
        go_wp2
        go_ret
        exact ⟨rfl, HP.out, HB4.out⟩
  · have d : decide (isR R c) = false := decide_eq_false hc
    rw [d] at HI
    have HV : Hid (R.rsync c = R) := Lib.hid (if_neg hc)
    rw [HV.out, if_neg hc]
    clear h hc d HV
    go_enter Try.func40, Try.ntmps40
    go_wp2_with (go_at_call 63; refine HI.out.mono ?_; rintro e w1 ⟨rfl, h1⟩; obtain rfl := h1.symm)
    go_ret
    exact ⟨rfl, ⟨V, H.out⟩, Sv.refl _ _⟩
end
end Go.Proofs.Ytjcbhomfggjmhaa.Mm
