import Derived.Lib.AppendZerosOnto
import Derived.Maps.AppendAt
import Derived.Laws.OwnMore
import Derived.Lib.SliceRun
import Derived.Laws.BitsLemmas
import Derived.IntWalk
import Derived.Laws.BitsAllLaws
import Derived.Deep.DrawnRows
import Derived.Test.YtpiafgmncfibmaaWe
import Derived.Test.YtpiafgmncfibmaaFw
import Derived.Test.YtpiafgmncfibmaaRows
import Derived.WalkKit
import Derived.ProofKit
import Derived.OpenShut
import Derived.Deep.QuietTactic
import Derived.BigQuiet
import Derived.Outline
import Derived.WalkSmall
import Derived.WalkLawsBesides
import Derived.WalkSpells
import Derived.BigGuardPart
import Derived.RegionTactic
import Derived.Deep.RegionHeld3
import Derived.Lib.Hide
import Derived.Deep.MidRow
import Derived.Below
import Derived.Deep.RegionWith
import Derived.Deep.OwnRows
import Derived.Deep.AppendLies
import Derived.Deep.RegionLaw
import Derived.Deep.CutBlock
import Derived.Deep.DeepCutAuto
namespace Go.Proofs.Ytpiafgmncfibmaa.Vf
open Go.ChangeShapes Go.WideShapes Go.ChangeAt Go.RowKit
set_option linter.unusedVariables false

/-- A row of one block that has room behind it. -/
def RowC (w : World) (b e n s : Nat) (F : Nat → Nat → Value) : Prop := ∃ C, w.heap[b]? = some (.cells C e (0, 0)) ∧ n * s ≤ C.size ∧ ∀ k j, k < n → j < s → C[k * s + j]? = some (F k j)
theorem RowC.cell {w : World} {b e n s : Nat} {F : Nat → Nat → Value} (h : RowC w b e n s F) {k j : Nat} (hk : k < n) (hj : j < s) : w.cell? ⟨b, k * s + j, none⟩ = some (F k j) := by
  obtain ⟨C, h1, h2, h3⟩ := h
  exact (rowAt_cell (rowAt_of h1) _).trans (h3 k j hk hj)
theorem RowC.frz {w : World} {b e n s : Nat} {F : Nat → Nat → Value} (h : RowC w b e n s F) (i : Nat) : w.frozen? ⟨b, i, none⟩ = false := by
  obtain ⟨C, h1, h2, h3⟩ := h
  exact rowAt_frz (rowAt_of h1) i
theorem RowC.lt {w : World} {b e n s : Nat} {F : Nat → Nat → Value} (h : RowC w b e n s F) : b < w.heap.size := by
  obtain ⟨C, h1, _⟩ := h
  exact (Array.getElem?_eq_some_iff.1 h1).1
theorem RowC.same {w w' : World} {b e n s : Nat} {F : Nat → Nat → Value} (h : RowC w b e n s F) (hs : w'.heap[b]? = w.heap[b]?) : RowC w' b e n s F := by
  obtain ⟨C, h1, h2⟩ := h
  exact ⟨C, hs.trans h1, h2⟩
theorem RowC.below {w w' : World} {b e n s : Nat} {F : Nat → Nat → Value} (h : RowC w b e n s F) (k : Below w.heap.size w w') : RowC w' b e n s F := h.same (k.block b h.lt)
theorem RowC.far {w : World} {b e n s : Nat} {F : Nat → Nat → Value} (h : RowC w b e n s F) {g : Nat} (hne : b ≠ g) (k : Nat) (v : Value) : RowC (w.setCell ⟨g, k, none⟩ v) b e n s F := h.same (Below.heap_setCell _ _ _ _ hne)
theorem RowC.set {w : World} {b e n s : Nat} {F : Nat → Nat → Value} (h : RowC w b e n s F) {k j : Nat} (hk : k < n) (hj : j < s) (v : Value) : RowC (w.setCell ⟨b, k * s + j, none⟩ v) b e n s (set2 F k j v) := by
  obtain ⟨C, h1, h2, h3⟩ := h
  refine ⟨C.setIfInBounds (k * s + j) v, Bx.set h1 _ v, by simpa using h2, fun k' j' hk' hj' => ?_⟩
  rw [Array.getElem?_setIfInBounds]
  unfold set2
  have hlt : k * s + j < C.size := by
    have := Nat.mul_le_mul_right s (show k + 1 ≤ n from hk)
    rw [Nat.add_mul] at this
    omega
  by_cases hik : k' = k ∧ j' = j
  · obtain ⟨rfl, rfl⟩ := hik
    rw [if_pos rfl, if_pos hlt, if_pos ⟨rfl, rfl⟩]
  · rw [if_neg (fun q => hik (by
      have e1 : (k * s + j) % s = j := by rw [Nat.mul_comm, Nat.mul_add_mod, Nat.mod_eq_of_lt hj]
      have e2 : (k' * s + j') % s = j' := by rw [Nat.mul_comm, Nat.mul_add_mod, Nat.mod_eq_of_lt hj']
      have e3 : (k * s + j) / s = k := by rw [Nat.mul_comm, Nat.mul_add_div (by omega), Nat.div_eq_of_lt hj]; omega
      have e4 : (k' * s + j') / s = k' := by rw [Nat.mul_comm, Nat.mul_add_div (by omega), Nat.div_eq_of_lt hj']; omega
      exact ⟨by rw [← e4, ← q, e3], by rw [← e2, ← q, e1]⟩)), if_neg hik]
    exact h3 k' j' hk' hj'
theorem RowC.ext {w : World} {b e n s : Nat} {F G : Nat → Nat → Value} (h : RowC w b e n s F) (hg : ∀ k j, k < n → j < s → F k j = G k j) : RowC w b e n s G := by
  obtain ⟨C, h1, h2, h3⟩ := h
  exact ⟨C, h1, h2, fun k j hk hj => by rw [← hg k j hk hj]; exact h3 k j hk hj⟩
/-- What a method's cells are. -/
def mF (P : Pg) (A : Ad) (i j : Nat) : Value := if j = 0 then .slice (A.ppa i) (P.pn i) (A.ppc i) else if j = 1 then .int .i64 (P.rt i) else if j = 2 then .slice (A.lla i) (P.ln i) (A.llc i) else if j = 3 then .int .i64 (P.sk i) else .slice (A.cda i) (P.cn i) (A.cdc i)
def mL (P : Pg) (A : Ad) : List Value := (List.range (P.nm * 5)).map fun t => mF P A (t / 5) (t % 5)
theorem mL_len (P : Pg) (A : Ad) : (mL P A).length = P.nm * 5 := by simp [mL]
theorem mL_at (P : Pg) (A : Ad) {i j : Nat} (hi : i < P.nm) (hj : j < 5) : (mL P A)[i * 5 + j]? = some (mF P A i j) := by
  unfold mL
  rw [List.getElem?_map, List.getElem?_range (by omega)]
  show some (mF P A ((i * 5 + j) / 5) ((i * 5 + j) % 5)) = _
  rw [show (i * 5 + j) / 5 = i by omega, show (i * 5 + j) % 5 = j by omega]
/-- Another array of methods, where it lies. -/
def AdM (A : Ad) (b c : Nat) : Ad := { A with ma := some ⟨b, 0, none⟩, mc := c }
theorem psk_at {P : Pg} {A : Ad} {m b c : Nat} {d : Int} {w V : World} (h : PgAt w P A) (hb : Below w.heap.size w V) (hr : RowC V b 50 P.nm 5 (mF (Psk P m d) A)) : PgAt V (Psk P m d) (AdM A b c) := by
  have h' := h.kept (Kept.of hb)
  refine ⟨h'.p, h'.k, h'.f, .inr ⟨b, 0, rfl, hr.lt, fun i hi => ?_⟩, h'.a, h'.l, h'.d⟩
  have e0 := hr.cell (j := 0) hi (by omega)
  have e1 := hr.cell (j := 1) hi (by omega)
  have e2 := hr.cell (j := 2) hi (by omega)
  have e3 := hr.cell (j := 3) hi (by omega)
  have e4 := hr.cell (j := 4) hi (by omega)
  rw [Nat.zero_add]
  exact ⟨e0, e1, e2, e3, e4⟩
theorem psk_fits {P : Pg} {A : Ad} {m b c : Nat} {d : Int} (h : Fits P A) : Fits (Psk P m d) (AdM A b c) := ⟨h.np, h.nc, h.nm, h.po, h.nf, h.pn, h.ln, h.cn, h.cd⟩
theorem psk_caps {P : Pg} {A : Ad} {m b c : Nat} {d : Int} (h : Caps P A) (hc : P.nm ≤ c) : Caps (Psk P m d) (AdM A b c) := ⟨hc, h.a, h.l, h.d⟩
theorem psk_set {P : Pg} {A : Ad} {m : Nat} {d d' : Int} (i j : Nat) (hj : j < 5) : set2 (mF (Psk P m d) A) m 3 (.int .i64 d') i j = mF (Psk P m d') A i j := by
  unfold set2
  by_cases h : i = m ∧ j = 3
  · obtain ⟨rfl, rfl⟩ := h
    rw [if_pos ⟨rfl, rfl⟩]
    show _ = Value.int .i64 (if i = i then d' else P.sk i)
    rw [if_pos rfl]
  · rw [if_neg h]
    by_cases h3 : j = 3
    · subst h3
      have him : i ≠ m := fun q => h ⟨q, rfl⟩
      show Value.int .i64 (if i = m then d else P.sk i) = Value.int .i64 (if i = m then d' else P.sk i)
      rw [if_neg him, if_neg him]
    · have : j = 0 ∨ j = 1 ∨ j = 2 ∨ j = 4 := by omega
      rcases this with rfl | rfl | rfl | rfl <;> rfl
theorem psk_id (P : Pg) (A : Ad) (m i j : Nat) : mF P A i j = mF (Psk P m (P.sk m)) A i j := by
  unfold mF
  show _ = if j = 0 then _ else if j = 1 then _ else if j = 2 then _ else if j = 3 then Value.int .i64 (if i = m then P.sk m else P.sk i) else _
  by_cases h : i = m
  · subst h
    rw [if_pos rfl]
    rfl
  · rw [if_neg h]
    rfl
def AppM (P : Pg) (A : Ad) (m : Nat) (W : World) (v : Value) : Prop := ∃ b c V, (Builtin.append_ #[24, 24] 24 #[v, .slice A.ma P.nm A.mc]).run Try.prog W = .ok (.slice (some ⟨b, 0, none⟩) P.nm c) V ∧ P.nm ≤ c ∧ RowC V b 50 P.nm 5 (mF (Psk P m (P.sk m)) A) ∧ W.grownBy V v.ownBlock ∧ (v.ownBlock = some b ∨ b = W.heap.size)
theorem info50m : (Try.prog.info? 50).map (fun i => (i.zero, i.size, i.bytes)) = some (some (.agg #[.slice none 0 0, .int .i64 0, .slice none 0 0, .int .i64 0, .slice none 0 0]), 5, 88) := by kernel_rfl
theorem app_m {P : Pg} {A : Ad} {m : Nat} {W : World} (h : PgAt W P A) (hm : m < P.nm) (h1 : P.nm ≤ 100) (v : Value) (base : Nat) (ho : W.ownsRow base 50 5 v 0 []) (hb : base ≤ W.heap.size) : AppM P A m W v := by
  obtain ⟨i0, hi, hz0, hz1, hz2⟩ := info_parts info50m
  obtain ⟨bm, om, hma, hbm, hcm⟩ := h.m.resolve_left (by omega)
  obtain ⟨g, cap, V, hr, h2, h3, h4, h5⟩ := run_append_lies (P := Try.prog) (w := W) 24 24 base 50 i0 _ 5 88 Try.underlying24 hi hz0 hz1 hz2 rfl (by decide) v 0 [] ho ⟨bm, om, none⟩ P.nm A.mc (mL P A) (mL_len P A) (fun j u hu => by
    have hj : j < P.nm * 5 := by have := (List.getElem?_eq_some_iff.1 hu).1; rw [mL_len] at this; exact this
    have e := mL_at P A (i := j / 5) (j := j % 5) (by omega) (by omega)
    rw [show j / 5 * 5 + j % 5 = j by omega, hu] at e
    rw [Go.WideShapes.add_plain, e]
    obtain ⟨c0, c1, c2, c3, c4⟩ := hcm (j / 5) (by omega)
    have hj5 : j % 5 = 0 ∨ j % 5 = 1 ∨ j % 5 = 2 ∨ j % 5 = 3 ∨ j % 5 = 4 := by omega
    rcases hj5 with q | q | q | q | q
    · rw [q, show om + j = om + j / 5 * 5 by omega]; exact c0
    · rw [q, show om + j = om + j / 5 * 5 + 1 by omega]; exact c1
    · rw [q, show om + j = om + j / 5 * 5 + 2 by omega]; exact c2
    · rw [q, show om + j = om + j / 5 * 5 + 3 by omega]; exact c3
    · rw [q, show om + j = om + j / 5 * 5 + 4 by omega]; exact c4) (fun u hu => by
    obtain ⟨t, _, rfl⟩ := List.mem_map.1 hu
    unfold mF
    repeat' split
    all_goals rfl) (by omega) (by unfold maxLen; omega) (by omega) hb W.heap.size rfl
  rw [Nat.zero_add] at hr h2
  rw [List.nil_append] at h2
  refine ⟨g, cap, V, by rw [hma]; exact hr, own_fit h2, ?_, h3, h4⟩
  rcases h2.2 with ⟨e1, _⟩ | ⟨g', cap', cur, hv, hg0, hg, hc, hx, hs, ht⟩
  · cases e1
  · injection hv with e1 e2 e3
    injection e1 with e1
    injection e1 with e1
    subst e1 e3
    refine ⟨cur, hg, by rw [hs]; exact Nat.mul_le_mul_right 5 hc, fun k j hk hj => ?_⟩
    rw [← psk_id, ← mL_at P A hk hj, ← ht]
    rw [List.getElem?_take, if_pos (by omega), Array.getElem?_toList]
/-- What stands while a method's stack is tried. -/
structure StkI (P : Pg) (A : Ad) (j qb b c : Nat) (w V : World) (s : Int) : Prop where
  p : Bx V w.heap.size #[.slice A.pa P.np A.pc, .slice A.ca P.nc A.cc, .slice A.ma P.nm A.mc] 26
  q : Bx V qb #[.slice A.pa P.np A.pc, .slice A.ca P.nc A.cc, .slice (some ⟨b, 0, none⟩) P.nm c] 26
  r : RowC V b 50 P.nm 5 (mF (Psk P j s) A)
  l : Below w.heap.size w V
  nq : qb ≠ b
  lb : w.heap.size < b
  cp : P.nm ≤ c
theorem StkI.below {P : Pg} {A : Ad} {j qb b c : Nat} {w V V' : World} {s : Int} (h : StkI P A j qb b c w V s) (k : Below V.heap.size V V') : StkI P A j qb b c w V' s := ⟨h.p.below k, h.q.below k, h.r.below k, h.l.trans (k.mono h.l.size), h.nq, h.lb, h.cp⟩
theorem StkI.set {P : Pg} {A : Ad} {j qb b c : Nat} {w V : World} {s : Int} (h : StkI P A j qb b c w V s) (hj : j < P.nm) (d : Int) : StkI P A j qb b c w (V.setCell ⟨b, j * 5 + 3, none⟩ (.int .i64 d)) d :=
  ⟨h.p.far (fun e => absurd h.lb (by omega)) _ _, h.q.far h.nq _ _, (h.r.set hj (by omega) _).ext fun k i _ hi => psk_set k i hi, h.l.setCell (Nat.le_of_lt h.lb) _, h.nq, h.lb, h.cp⟩
theorem StkI.met {P : Pg} {A : Ad} {j qb b c : Nat} {w V : World} {s : Int} (h : StkI P A j qb b c w V s) (hP : PgAt w P A) (hf : Fits P A) (hc : Caps P A) : Calls Try.prog 24 #[.agg #[.slice A.pa P.np A.pc, .slice A.ca P.nc A.cc, .slice (some ⟨b, 0, none⟩) P.nm c], .int .i64 j] V (MetP (Psk P j s) j V) := Method_c (Psk P j s) (AdM A b c) j V (psk_at hP h.l h.r) (psk_fits hf) (psk_caps hc h.cp)
theorem meth_chk {P : Pg} {m : Int} (h : (methR P m).2 = 0) : P.chk = 0 ∧ isIn m P.nm = true := by
  by_cases h1 : P.chk = 0
  · cases h2 : isIn m P.nm with
    | true => exact ⟨h1, rfl⟩
    | false => rw [methR_2 h2] at h; cases h
  · rw [methR_1 h1] at h; cases h

set_option maxRecDepth 100000 in
set_option maxHeartbeats 8000000 in
theorem stack_c (P : Pg) (A : Ad) (m mo : Int) (w : World) (h : PgAt w P A) (hf : Fits P A) (hc : Caps P A) : Calls Try.prog 11 #[.agg (P.cells A), .int .i64 m, .int .i64 mo] w fun e w' => e = .returned (.bool true) ∧ Below w.heap.size w w' := by
  have HP := Lib.hid h
  have HFt := Lib.hid hf
  have HCp := Lib.hid hc
  have HB0 : Hid (Bx (w.alloc (.cells #[.slice A.pa P.np A.pc, .slice A.ca P.nc A.cc, .slice A.ma P.nm A.mc] 26)) w.heap.size #[.slice A.pa P.np A.pc, .slice A.ca P.nc A.cc, .slice A.ma P.nm A.mc] 26 ∧ Below w.heap.size w (w.alloc (.cells #[.slice A.pa P.np A.pc, .slice A.ca P.nc A.cc, .slice A.ma P.nm A.mc] 26))) := Lib.hid ⟨Bx.new _ _ _, (Below.refl _ _).alloc (Nat.le_refl _) _⟩
  clear h hf hc
  show Calls Try.prog 11 #[.agg #[.slice A.pa P.np A.pc, .slice A.ca P.nc A.cc, .slice A.ma P.nm A.mc], .int .i64 m, .int .i64 mo] w _
  go_enter Try.func11, Try.ntmps11
  go_upto_region 1 with fail
  obtain ⟨W0, hW0⟩ : ∃ q, q = w.alloc (.cells #[.slice A.pa P.np A.pc, .slice A.ca P.nc A.cc, .slice A.ma P.nm A.mc] 26) := ⟨_, rfl⟩
  rw [← hW0] at HB0 ⊢
  clear hW0
  have HKn := Lib.hid (known_c W0)
  go_wp2_with fail
  refine HKn.out.mono ?_
  rintro e W1 ⟨rfl, hb⟩
  have HB1 : Hid (Bx W1 w.heap.size #[.slice A.pa P.np A.pc, .slice A.ca P.nc A.cc, .slice A.ma P.nm A.mc] 26 ∧ Below w.heap.size w W1) := Lib.hid ⟨HB0.out.1.below hb, HB0.out.2.trans (hb.mono HB0.out.2.size)⟩
  clear hb HKn HB0
  have x0 : W1.cell? ⟨w.heap.size, 0, none⟩ = some (.slice A.pa P.np A.pc) := HB1.out.1.cell 0
  have x1 : W1.cell? ⟨w.heap.size, 1, none⟩ = some (.slice A.ca P.nc A.cc) := HB1.out.1.cell 1
  have x2 : W1.cell? ⟨w.heap.size, 2, none⟩ = some (.slice A.ma P.nm A.mc) := HB1.out.1.cell 2
  have HFw := Lib.hid (few_c P A W1 (HP.out.kept (Kept.of HB1.out.2)) HFt.out)
  go_wp2_with fail
  clear x0 x1 x2
  refine HFw.out.mono ?_
  rintro e W2 ⟨⟨fb, rfl⟩, hb⟩
  have HB2 : Hid (Bx W2 w.heap.size #[.slice A.pa P.np A.pc, .slice A.ca P.nc A.cc, .slice A.ma P.nm A.mc] 26 ∧ Below w.heap.size w W2) := Lib.hid ⟨HB1.out.1.below hb, HB1.out.2.trans (hb.mono HB1.out.2.size)⟩
  clear hb HFw HB1
  have x0 : W2.cell? ⟨w.heap.size, 0, none⟩ = some (.slice A.pa P.np A.pc) := HB2.out.1.cell 0
  have x1 : W2.cell? ⟨w.heap.size, 1, none⟩ = some (.slice A.ca P.nc A.cc) := HB2.out.1.cell 1
  have x2 : W2.cell? ⟨w.heap.size, 2, none⟩ = some (.slice A.ma P.nm A.mc) := HB2.out.1.cell 2
  have hbig : P.nm ≤ Big := HFt.out.nm
  unfold Big at hbig
  cases fb with
  | false => go_wp2; go_ret; exact ⟨rfl, HB2.out.2⟩
  | true =>
  by_cases m0 : m < 0
  · have d0 : decide (m < 0) = true := decide_eq_true m0
    go_wp2; go_ret; exact ⟨rfl, HB2.out.2⟩
  have d0 : decide (m < 0) = false := decide_eq_false m0
  obtain ⟨j, rfl⟩ : ∃ j : Nat, m = (j : Int) := ⟨m.toNat, by omega⟩
  by_cases m1 : (P.nm : Int) ≤ j
  · have d1 : decide ((P.nm : Int) ≤ (j : Int)) = true := decide_eq_true m1
    have d2 : decide (P.nm ≤ j) = true := decide_eq_true (by omega)
    go_wp2; go_ret; exact ⟨rfl, HB2.out.2⟩
  have d1 : decide ((P.nm : Int) ≤ (j : Int)) = false := decide_eq_false m1
  have d2 : decide (P.nm ≤ j) = false := decide_eq_false (by omega)
  have hj : j < P.nm := by omega
  by_cases o0 : mo < 0
  · have d3 : decide (mo < 0) = true := decide_eq_true o0
    go_wp2; go_ret; exact ⟨rfl, HB2.out.2⟩
  have d3 : decide (mo < 0) = false := decide_eq_false o0
  by_cases o1 : 10 < mo
  · have d4 : decide (10 < mo) = true := decide_eq_true o1
    go_wp2; go_ret; exact ⟨rfl, HB2.out.2⟩
  have d4 : decide (10 < mo) = false := decide_eq_false o1
  have HM := Lib.hid (Method_c P A j W2 (HP.out.kept (Kept.of HB2.out.2)) HFt.out HCp.out)
  go_wp2_with fail
  clear x0 x1 x2
  refine HM.out.mono ?_
  rintro e W3 ⟨rfl, hb⟩
  have HB3 : Hid (Bx W3 w.heap.size #[.slice A.pa P.np A.pc, .slice A.ca P.nc A.cc, .slice A.ma P.nm A.mc] 26 ∧ Below w.heap.size w W3) := Lib.hid ⟨HB2.out.1.below hb, HB2.out.2.trans (hb.mono HB2.out.2.size)⟩
  clear hb HM HB2
  have x0 : W3.cell? ⟨w.heap.size, 0, none⟩ = some (.slice A.pa P.np A.pc) := HB3.out.1.cell 0
  have x1 : W3.cell? ⟨w.heap.size, 1, none⟩ = some (.slice A.ca P.nc A.cc) := HB3.out.1.cell 1
  have x2 : W3.cell? ⟨w.heap.size, 2, none⟩ = some (.slice A.ma P.nm A.mc) := HB3.out.1.cell 2
  obtain ⟨q2, hq2⟩ : ∃ q, (methR P j).2 = q := ⟨_, rfl⟩
  have HQ := Lib.hid hq2
  rw [hq2]
  clear hq2
  generalize (methR P j).1 = q1
  by_cases h0 : q2 = 0
  case neg =>
    have dq : (q2 != 0) = true := by simpa using h0
    clear h0
    go_wp2
    go_ret
    exact ⟨rfl, HB3.out.2⟩
  subst h0
  go_upto_region 9 with fail
  obtain ⟨W4, hW4⟩ : ∃ q, q = W3.alloc (.cells #[.slice A.pa P.np A.pc, .slice A.ca P.nc A.cc, .slice A.ma P.nm A.mc] 26) := ⟨_, rfl⟩
  rw [← hW4]
  obtain ⟨qb, hqb⟩ : ∃ q, q = W3.heap.size := ⟨_, rfl⟩
  rw [← hqb]
  obtain ⟨hck, -⟩ := meth_chk HQ.out
  obtain ⟨hn1, -, hl⟩ := chk_lims hck
  obtain ⟨_, s1, s0, _, _⟩ := hl j hj
  obtain ⟨E, hE1, hE2, hE3, hE4⟩ := stk_facts hck hj HQ.out
  have HE1 := Lib.hid hE1
  have HE2 := Lib.hid hE2
  have HE3 := Lib.hid hE3
  have HE4 := Lib.hid hE4
  have H4 : Hid (Bx W4 w.heap.size #[.slice A.pa P.np A.pc, .slice A.ca P.nc A.cc, .slice A.ma P.nm A.mc] 26 ∧ Bx W4 qb #[.slice A.pa P.np A.pc, .slice A.ca P.nc A.cc, .slice A.ma P.nm A.mc] 26 ∧ Below w.heap.size w W4 ∧ W4.heap.size = qb + 1 ∧ w.heap.size < qb) := Lib.hid (by
    rw [hW4, hqb]
    exact ⟨HB3.out.1.alloc _, Bx.new _ _ _, HB3.out.2.alloc HB3.out.2.size _, World.size_alloc _ _, HB3.out.1.lt⟩)
  obtain ⟨bm, om, hma, hbm, hcm⟩ := HP.out.m.resolve_left (by omega)
  have HM3 : Hid (∀ V, Below w.heap.size w V → V.cell? ⟨bm, om + j * 5 + 3, none⟩ = some (.int .i64 (P.sk j))) := Lib.hid fun V hV => (hV.cell (p := ⟨bm, om + j * 5 + 3, none⟩) hbm).trans (hcm j hj).2.2.2.1
  have HMa := Lib.hid hma
  clear hcm hma hW4 hqb HB3 HQ hl hck hE1 hE2 hE3 hE4 x0 x1 x2 d0 d1 d2 d3 d4
  obtain ⟨W5, hW5⟩ : ∃ q, q = W4.alloc (.cells #[] 50) := ⟨_, rfl⟩
  have h5 : Bx W5 w.heap.size #[.slice A.pa P.np A.pc, .slice A.ca P.nc A.cc, .slice A.ma P.nm A.mc] 26 ∧ Bx W5 qb #[.slice A.pa P.np A.pc, .slice A.ca P.nc A.cc, .slice A.ma P.nm A.mc] 26 ∧ Below w.heap.size w W5 ∧ W5.heap.size = W4.heap.size + 1 := by
    rw [hW5]
    exact ⟨H4.out.1.alloc _, H4.out.2.1.alloc _, H4.out.2.2.1.alloc H4.out.2.2.1.size _, World.size_alloc _ _⟩
  have ho : W5.ownsRow W4.heap.size 50 5 (.slice (some ⟨W4.heap.size, 0, none⟩) 0 0) 0 [] := ⟨rfl, .inr ⟨W4.heap.size, 0, #[], rfl, Nat.le_refl _, by rw [hW5]; exact heap_alloc_new _ _, Nat.le_refl _, Nat.zero_le _, rfl, rfl⟩⟩
  obtain ⟨b, c, V, hrun, hcap, hrow, hgr, hbk⟩ := app_m (m := j) (HP.out.kept (Kept.of h5.2.2.1)) hj hn1 _ W4.heap.size ho (by omega)
  have hbq : W4.heap.size ≤ b := by
    rcases hbk with q | q
    · injection q with q; exact Nat.le_of_eq q
    · omega
  have hlt : w.heap.size < W4.heap.size ∧ qb < W4.heap.size ∧ w.heap.size < qb := by
    have := H4.out.2.2.2
    omega
  have HV : Hid (Bx V w.heap.size #[.slice A.pa P.np A.pc, .slice A.ca P.nc A.cc, .slice A.ma P.nm A.mc] 26 ∧ Bx V qb #[.slice A.pa P.np A.pc, .slice A.ca P.nc A.cc, .slice A.ma P.nm A.mc] 26 ∧ Below w.heap.size w V) := Lib.hid ⟨h5.1.grown hgr (by show some w.heap.size ≠ some W4.heap.size; intro q; injection q with q; omega), h5.2.1.grown hgr (by show some qb ≠ some W4.heap.size; intro q; injection q with q; omega), h5.2.2.1.trans ((own_below ho (by omega) hgr).mono (by omega))⟩
  have HI : Hid (StkI P A j qb b c w (V.setCell ⟨qb, 2, none⟩ (.slice (some ⟨b, 0, none⟩) P.nm c)) (P.sk j)) := Lib.hid ⟨HV.out.1.far (by omega) _ _, HV.out.2.1.set 2 _, hrow.far (by omega) _ _, HV.out.2.2.setCell (by show w.heap.size ≤ qb; omega) _, by omega, by omega, hcap⟩
  have x2 : (W4.alloc (.cells #[] 50)).cell? ⟨w.heap.size, 2, none⟩ = some (.slice A.ma P.nm A.mc) := by rw [← hW5]; exact h5.1.cell 2
  have y2 : V.cell? ⟨qb, 2, none⟩ = some (.slice A.ma P.nm A.mc) := HV.out.2.1.cell 2
  have z2 : V.frozen? ⟨qb, 2, none⟩ = false := HV.out.2.1.frz 2
  have HRun := Lib.hid (hW5 ▸ hrun)
  clear hrun ho h5 hbk hgr hrow hW5 H4
  rw [HMa.out] at x2 y2 HRun ⊢
  go_wp2_with (at_builtin; refine Lib.wpList_append_run _ rfl _ _ _ _ rfl _ _ rfl rfl _ _ HRun.out ?_)
  obtain ⟨W6, hW6⟩ : ∃ q, q = V.setCell ⟨qb, 2, none⟩ (.slice (some ⟨b, 0, none⟩) P.nm c) := ⟨_, rfl⟩
  rw [← hW6] at HI ⊢
  clear hW6 HV HRun x2 y2 z2 hcap
  obtain ⟨S, hS⟩ : ∃ S : Nat, P.sk j = (S : Int) := ⟨(P.sk j).toNat, by omega⟩
  rw [hS] at HM3 HI HE3 s1 s0
  clear hS
  go_loopw [10] (fun i wr => ∃ (d : Nat) (s : Int), i = .int .i64 d ∧ d ≤ S ∧ Hid (StkI P A j qb b c w wr s) ∧ Hid (∀ e : Nat, e < d → E e ≠ 0)) (fun i _ => S + 1 - (intOf i).toNat)
  case atStart => exact ⟨0, _, rfl, Nat.zero_le _, HI, Lib.hid fun e he => absurd he (Nat.not_lt_zero e)⟩
  case round =>
    obtain ⟨d, s, rfl, hd, HJ, HZ⟩ := hrel
    have hdi : (d : Int) ≤ S := by omega
    have x2 : wr.cell? ⟨w.heap.size, 2, none⟩ = some (.slice (some ⟨bm, om, none⟩) P.nm A.mc) := by rw [← HMa.out]; exact HJ.out.p.cell 2
    have m3 : wr.cell? ⟨bm, om + j * 5 + 3, none⟩ = some (.int .i64 S) := HM3.out wr HJ.out.l
    have y2 : wr.cell? ⟨qb, 2, none⟩ = some (.slice (some ⟨b, 0, none⟩) P.nm c) := HJ.out.q.cell 2
    have z3 : wr.cell? ⟨b, j * 5 + 3, none⟩ = some (.int .i64 s) := by
      have e : mF (Psk P j s) A j 3 = .int .i64 s := by
        show Value.int .i64 (if j = j then s else P.sk j) = _
        rw [if_pos rfl]
      exact (HJ.out.r.cell hj (by omega)).trans (by rw [e])
    have f3 : wr.frozen? ⟨b, j * 5 + 3, none⟩ = false := HJ.out.r.frz _
    obtain ⟨W7, hW7⟩ : ∃ q, q = wr.setCell ⟨b, j * 5 + 3, none⟩ (.int .i64 d) := ⟨_, rfl⟩
    have HJ2 : Hid (StkI P A j qb b c w W7 d) := Lib.hid (by rw [hW7]; exact HJ.out.set hj d)
    have HM := Lib.hid (HJ2.out.met HP.out HFt.out HCp.out)
    have HW7 := Lib.hid hW7
    clear hW7
    go_upto_region 15 with fail
    rw [← HW7.out]
    clear x2 m3 y2 z3 f3
    have y0 : W7.cell? ⟨qb, 0, none⟩ = some (.slice A.pa P.np A.pc) := HJ2.out.q.cell 0
    have y1 : W7.cell? ⟨qb, 1, none⟩ = some (.slice A.ca P.nc A.cc) := HJ2.out.q.cell 1
    have y2 : W7.cell? ⟨qb, 2, none⟩ = some (.slice (some ⟨b, 0, none⟩) P.nm c) := HJ2.out.q.cell 2
    go_wp2_with fail
    clear y0 y1 y2
    refine HM.out.mono ?_
    rintro e W8 ⟨rfl, hb⟩
    have HJ3 := Lib.hid (HJ2.out.below hb)
    clear hb HM HJ2 HW7 HJ
    rw [HE1.out d (by omega) (by omega)]
    generalize (methR (Psk P j d) j).1 = p1
    obtain ⟨er, her⟩ : ∃ q, E d = q := ⟨_, rfl⟩
    have HEr := Lib.hid her
    rw [her]
    clear her
    by_cases h0 : er = 0
    · subst h0
      have HMm : Hid (∀ V s, StkI P A j qb b c w V s → Calls Try.prog 24 #[.agg #[.slice A.pa P.np A.pc, .slice A.ca P.nc A.cc, .slice (some ⟨b, 0, none⟩) P.nm c], .int .i64 j] V (MetP (Psk P j s) j V)) := Lib.hid fun V s h => h.met HP.out HFt.out HCp.out
      have y2 : W8.cell? ⟨qb, 2, none⟩ = some (.slice (some ⟨b, 0, none⟩) P.nm c) := HJ3.out.q.cell 2
      have z3 : W8.cell? ⟨b, j * 5 + 3, none⟩ = some (.int .i64 d) := by
        have e : mF (Psk P j d) A j 3 = .int .i64 d := by
          show Value.int .i64 (if j = j then (d : Int) else P.sk j) = _
          rw [if_pos rfl]
        exact (HJ3.out.r.cell hj (by omega)).trans (by rw [e])
      have f3 : W8.frozen? ⟨b, j * 5 + 3, none⟩ = false := HJ3.out.r.frz _
      have b1 : (d : Int) + mo ≤ 50 := by omega
      have b0 : 0 ≤ (d : Int) + mo := by omega
      obtain ⟨W9, hW9⟩ : ∃ q, q = W8.setCell ⟨b, j * 5 + 3, none⟩ (.int .i64 ((d : Int) + mo)) := ⟨_, rfl⟩
      have HJ4 : Hid (StkI P A j qb b c w W9 ((d : Int) + mo)) := Lib.hid (by rw [hW9]; exact HJ3.out.set hj _)
      have HW9 := Lib.hid hW9
      clear hW9
      go_upto_region 20 with fail
      rw [← HW9.out]
      clear y2 z3 f3 HW9 HJ3
      have x2 : W9.cell? ⟨w.heap.size, 2, none⟩ = some (.slice (some ⟨bm, om, none⟩) P.nm A.mc) := by rw [← HMa.out]; exact HJ4.out.p.cell 2
      have m3 : W9.cell? ⟨bm, om + j * 5 + 3, none⟩ = some (.int .i64 S) := HM3.out W9 HJ4.out.l
      have y0 : W9.cell? ⟨qb, 0, none⟩ = some (.slice A.pa P.np A.pc) := HJ4.out.q.cell 0
      have y1 : W9.cell? ⟨qb, 1, none⟩ = some (.slice A.ca P.nc A.cc) := HJ4.out.q.cell 1
      have y2 : W9.cell? ⟨qb, 2, none⟩ = some (.slice (some ⟨b, 0, none⟩) P.nm c) := HJ4.out.q.cell 2
      have z3 : W9.cell? ⟨b, j * 5 + 3, none⟩ = some (.int .i64 ((d : Int) + mo)) := by
        have e : mF (Psk P j ((d : Int) + mo)) A j 3 = .int .i64 ((d : Int) + mo) := by
          show Value.int .i64 (if j = j then (d : Int) + mo else P.sk j) = _
          rw [if_pos rfl]
        exact (HJ4.out.r.cell hj (by omega)).trans (by rw [e])
      by_cases h40 : 40 < (d : Int) + mo
      · have d5 : decide (40 < (d : Int) + mo) = true := decide_eq_true h40
        go_wp2
        go_ret
        exact ⟨rfl, HJ4.out.l⟩
      have d5 : decide (40 < (d : Int) + mo) = false := decide_eq_false h40
      have HM := Lib.hid (HMm.out W9 _ HJ4.out)
      go_wp2_with fail
      clear y0 y1 y2 x2 m3 z3
      refine HM.out.mono ?_
      rintro e W10 ⟨rfl, hb⟩
      have HJ5 := Lib.hid (HJ4.out.below hb)
      clear hb HM HJ4
      rw [HE1.out _ b0 (by omega), HE4.out d ((d : Int) + mo) (by omega) HEr.out]
      generalize (methR (Psk P j ((d : Int) + mo)) j).1 = p2
      have x2 : W10.cell? ⟨w.heap.size, 2, none⟩ = some (.slice (some ⟨bm, om, none⟩) P.nm A.mc) := by rw [← HMa.out]; exact HJ5.out.p.cell 2
      have m3 : W10.cell? ⟨bm, om + j * 5 + 3, none⟩ = some (.int .i64 S) := HM3.out W10 HJ5.out.l
      go_wp2
      go_ret
      exact ⟨rfl, HJ5.out.l⟩
    · have h22 : er = 22 := by
        rcases HE2.out d with q | q
        · exact absurd (HEr.out.symm.trans q) h0
        · exact HEr.out.symm.trans q
      subst h22
      have hlt : d < S := by
        rcases Nat.lt_or_ge d S with q | q
        · exact q
        · have e : d = S := by omega
          have h1 := HE3.out
          rw [← e, HEr.out] at h1
          cases h1
      go_wp2
      exact ⟨⟨d + 1, _, by go_num, by omega, HJ3, Lib.hid fun e he => by
        by_cases hed : e = d
        · subst hed; rw [HEr.out]; decide
        · exact HZ.out e (by omega)⟩, by simp [intOf]; omega⟩
end Go.Proofs.Ytpiafgmncfibmaa.Vf
