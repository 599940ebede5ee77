import Derived.Test.YtgdlcnngplfjnaaDoorCf
import Derived.Test.YtgdlcnngplfjnaaDoorCb
import Derived.BigGuardPart
import Derived.LoopIn
import Derived.LoopNIn
import Derived.OwnWalkIn
import Derived.RangeFuncBound
import Derived.RangeFuncBox
import Derived.RangeFuncCalls
import Derived.RangeFuncLeaves
import Derived.RangeFuncNested
import Derived.Shelf.RegionOpen
import Derived.TacticsInMore
import Derived.Laws.BitsLemmas
import Derived.IntWalk
import Derived.Laws.BitsAllLaws
import Derived.Deep.DrawnRows
import Derived.WalkKit
import Derived.ProofKit
import Derived.OpenShut
import Derived.Deep.QuietTactic
import Derived.BigQuiet
import Derived.Outline
import Derived.WalkSmall
import Derived.WalkLawsBesides
import Derived.WalkSpells
import Derived.BigGuardPart
import Derived.RegionTactic
import Derived.Deep.RegionHeld3
import Derived.Lib.Hide
import Derived.Deep.MidRow
import Derived.Below
import Derived.Deep.RegionWith
import Derived.Deep.OwnRows
import Derived.Deep.AppendLies
import Derived.Deep.RegionLaw
import Derived.Deep.CutBlock
import Derived.Deep.DeepCutAuto
import Derived.Lib.AppendIntMem
import Derived.Lib.ItoaLen
namespace Go.Proofs.YtgdlcnngplfjnaaDoor.Co
open Go.Shelf Go.ChangeShapes Go.WideShapes Go.ChangeAt Go.RowKit Go.Proofs.YtgdlcnngplfjnaaDoor.Vf
set_option linter.unusedVariables false
/-! ### Text (14) -/
set_option linter.unusedSimpArgs false
attribute [local go_sem] Oper.semAt_some
theorem Bd.far {B b : Nat} {p v : Value} {l : List UInt8} {w w' : World} (h : Bd B b p v l w) (hb : Below w.heap.size w w') : Bd B b p v l w' := by
  have h1 := h.b
  have h2 := h.s
  exact ⟨(hb.block b (by omega)).trans h.h, h.p, own_below2 h.o hb, h.b, Nat.le_trans h.s hb.size⟩
theorem Bd.put {B b : Nat} {p v : Value} {l : List UInt8} {w : World} (h : Bd B b p v l w) (g : Nat) (o o' : Obj) (hg : w.heap[g]? = some o) (hc : o.isCells = false) : Bd B b p v l (w.putObj g o') := by
  have hne : ∀ q C e t, w.heap[q]? = some (Obj.cells C e t) → q ≠ g := fun q C e t hq e2 => by
    subst e2
    rw [hg] at hq
    cases hq
    cases hc
  refine ⟨(put_far _ _ _ _ (hne _ _ _ _ h.h)).trans h.h, h.p, ⟨h.o.1, ?_⟩, h.b, by have := h.s; simpa [World.putObj] using this⟩
  rcases h.o.2 with q | ⟨g2, cap, cur, h1, h2, h3, h4⟩
  · exact .inl q
  · exact .inr ⟨g2, cap, cur, h1, h2, (put_far _ _ _ _ (hne _ _ _ _ h3)).trans h3, h4⟩
/-- Within a round that began at W. -/
structure TxS (B b : Nat) (W : World) (l : List UInt8) (V : World) : Prop where
  d : ∃ p v, Bd B b p v l V
  x : KpX B b 5 W V
  y : KpY W V
theorem TxS.wr {B b : Nat} {W V V' : World} {l l' : List UInt8} (h : TxS B b W l V) (hr : BdR B b l' V V') : TxS B b W l' V' := ⟨let ⟨v', hv⟩ := hr.1; ⟨_, v', hv⟩, h.x.t hr.2.1, h.y.t hr.2.2⟩
theorem TxS.far {B b : Nat} {W V V' : World} {l : List UInt8} (h : TxS B b W l V) (hb : Below V.heap.size V V') : TxS B b W l V' := ⟨let ⟨p, v, hv⟩ := h.d; ⟨p, v, hv.far hb⟩, h.x.t (let ⟨p, v, hv⟩ := h.d; KpX.below hv.s hb), h.y.t (KpY.below hb)⟩
theorem TxS.put {B b : Nat} {W V : World} {l : List UInt8} (h : TxS B b W l V) (g : Nat) (o o' : Obj) (hg : V.heap[g]? = some o) (hc : o.isCells = false) (hW : W.heap.size ≤ g) (hB : B ≤ g) : TxS B b W l (V.putObj g o') := by
  obtain ⟨p, v, hv⟩ := h.d
  refine ⟨⟨p, v, hv.put g o o' hg hc⟩, h.x.t (KpX.non (row := some g) hv.s (grownBy_putObj' V g o') (fun r q => by injection q with q; subst q; exact ⟨hB, o, hg, hc⟩)), fun q o2 h1 h2 => ?_⟩
  exact (put_far _ _ _ _ (by have := (Array.getElem?_eq_some_iff.1 h1).1; omega)).trans (h.y q o2 h1 h2)
theorem TxS.str {B b : Nat} {W V : World} {l : List UInt8} (h : TxS B b W l V) (s : List UInt8) (hn : l.length ≤ 1000000) (hs : s.length ≤ 100000) : Calls Tryd.prog 35 #[.pointer (some ⟨b, 0, none⟩), .string ⟨s.toArray⟩] V fun e w' => e = .returned (.tuple #[.int .i64 (s.length : Nat), .nilIface]) ∧ BdR B b (l ++ s) V w' := by
  obtain ⟨p, v, hv⟩ := h.d
  exact wstr_c B b p v l s V hv hn hs
theorem TxS.byte {B b : Nat} {W V : World} {l : List UInt8} (h : TxS B b W l V) (c : UInt8) (z : Int) (hz : ((c.toNat : Nat) : Int) = z) (hn : l.length ≤ 1000000) : Calls Tryd.prog 36 #[.pointer (some ⟨b, 0, none⟩), .int .u8 z] V fun e w' => e = .returned .nilIface ∧ BdR B b (l ++ [c]) V w' := by
  obtain ⟨p, v, hv⟩ := h.d
  subst hz
  exact wbyte_c B b p v l c V hv hn
/-- .. with the iterator over the letters at g. -/
structure TxG (B b : Nat) (W : World) (g : Nat) (s : ByteArray) (pos : Nat) (l : List UInt8) (V : World) : Prop where
  t : TxS B b W l V
  it : V.heap[g]? = some (.stringIter s pos)
  nw : W.heap.size ≤ g
  nb : B ≤ g
theorem TxG.wr {B b : Nat} {W V V' : World} {g : Nat} {s : ByteArray} {pos : Nat} {l l' : List UInt8} (h : TxG B b W g s pos l V) (hr : BdR B b l' V V') : TxG B b W g s pos l' V' := ⟨h.t.wr hr, hr.2.2 g _ h.it rfl, h.nw, h.nb⟩
theorem TxG.far {B b : Nat} {W V V' : World} {g : Nat} {s : ByteArray} {pos : Nat} {l : List UInt8} (h : TxG B b W g s pos l V) (hb : Below V.heap.size V V') : TxG B b W g s pos l V' := ⟨h.t.far hb, (hb.block g (Array.getElem?_eq_some_iff.1 h.it).1).trans h.it, h.nw, h.nb⟩
theorem TxG.nxt {B b : Nat} {W V : World} {g : Nat} {s : ByteArray} {pos : Nat} {l : List UInt8} (h : TxG B b W g s pos l V) (p' : Nat) : TxG B b W g s p' l (V.putObj g (.stringIter s p')) := ⟨h.t.put g _ _ h.it rfl h.nw h.nb, put_same _ _ _ _ h.it, h.nw, h.nb⟩
theorem TxG.begin {B b : Nat} {W V : World} {l : List UInt8} (h : TxS B b W l V) (s : ByteArray) : TxG B b W V.heap.size s 0 l (V.iter s 0) := by
  obtain ⟨p, v, hv⟩ := h.d
  exact ⟨h.far ((Below.refl _ _).alloc (Nat.le_refl _) _), World.iter_heap _ _ _, h.x.size, hv.s⟩
theorem itoa_c (z : Int) (h0 : -40000 ≤ z) (h1 : z ≤ 40000) (w : World) (hT : Tbs w) : Calls Tryd.prog 37 #[.int .i64 z] w fun e w' => e = .returned (.string ⟨(Lib.itoa z).toArray⟩) ∧ Below w.heap.size w w' := by
  refine (Tryd.strconv_Itoa z (by omega) (by omega) w hT.p).mono ?_
  rintro e w' ⟨rfl, k, os, rfl⟩
  exact ⟨rfl, _root_.Go.Lib.below_grow _ _ (Nat.le_refl _) _ _⟩
/-- What a round is told. -/
def toldC (n : Nat) (D : Nat → Nat) (k : Nat) : Nat := if rdE n D k = 0 then D k else 0
def toldA (n : Nat) (D : Nat → Nat) (k : Nat) : Int := if rdE n D k = 0 then opA D k else 0
def toldB (n : Nat) (D : Nat → Nat) (k : Nat) : Int := if rdE n D k = 0 then opB D k else 0
def toldS (n : Nat) (D : Nat → Nat) (k : Nat) : Int := if rdE n D k = 0 then (szK (kindO (D k)) : Nat) else 0
theorem opsS_told (n : Nat) (D : Nat → Nat) (k : Nat) : opsS n D k = ret4 (toldC n D k : Nat) (toldA n D k) (toldB n D k) (toldS n D k) := by
  unfold opsS toldC toldA toldB toldS
  by_cases h : rdE n D k = 0
  · simp only [if_pos h]; rfl
  · simp only [if_neg h]; rfl
theorem toldC_lt (n : Nat) (D : Nat → Nat) (k : Nat) : toldC n D k < 41 := by
  unfold toldC
  split
  · rename_i h
    unfold rdE at h
    split at h
    · cases h
    · omega
  · omega
theorem wr16 (z : Int) : -32768 ≤ IntKind.i16.wrap z ∧ IntKind.i16.wrap z ≤ 32767 := by
  rw [wrap16]; omega
theorem wr8 (z : Int) : -32768 ≤ IntKind.i8.wrap z ∧ IntKind.i8.wrap z ≤ 32767 := by
  rw [wrap8]; omega
theorem szK_two {q : Nat} (h : q ≠ 0) : 2 ≤ szK q := by
  unfold szK
  split
  · omega
  · split
    · omega
    · exact Nat.le_refl 2
theorem op_bd {n : Nat} {D : Nat → Nat} (hD : ∀ i, i < n → D i < 256) {k : Nat} (h : rdE n D k = 0) : (-32768 ≤ opA D k ∧ opA D k ≤ 32767) ∧ (-32768 ≤ opB D k ∧ opB D k ≤ 32767) := by
  have hle : k + szK (kindO (D k)) ≤ n := by
    unfold rdE at h
    split at h
    · cases h
    · split at h
      · cases h
      · omega
  unfold opA opB
  have h1 : kindO (D k) ≠ 0 → D (k + 1) < 256 := fun q => hD _ (by have := szK_two q; omega)
  have h2 : kindO (D k) = 4 → D (k + 2) < 256 := fun q => hD _ (by rw [q] at hle; have : szK 4 = 3 := rfl; omega)
  refine ⟨?_, ?_⟩
  · split
    · omega
    · rename_i q
      have := h1 q
      split
      · exact wr8 _
      · split
        · exact wr16 _
        · omega
  · split
    · rename_i q
      have := h2 q
      omega
    · omega
theorem told_bd {n : Nat} {D : Nat → Nat} (hD : ∀ i, i < n → D i < 256) (k : Nat) : (-32768 ≤ toldA n D k ∧ toldA n D k ≤ 32767) ∧ (-32768 ≤ toldB n D k ∧ toldB n D k ≤ 32767) := by
  unfold toldA toldB
  by_cases h : rdE n D k = 0
  · simp only [if_pos h]; exact op_bd hD h
  · simp only [if_neg h]; omega
def textQ (n : Nat) (D : Nat → Nat) (l : List Nat) : List UInt8 := l.flatMap fun k => lineP (toldC n D k) (toldA n D k) (toldB n D k) ++ [10]
theorem begs_rd (n : Nat) (D : Nat → Nat) : ∀ f k, ∀ x ∈ begs n D f k, rdE n D x = 0
  | 0, k, x, hx => by cases hx
  | f + 1, k, x, hx => by
    unfold begs at hx
    split at hx
    · split at hx
      · rename_i h
        rcases List.mem_cons.1 hx with rfl | hx
        · exact h
        · exact begs_rd n D f _ x hx
      · cases hx
    · cases hx
theorem textQ_P (n : Nat) (D : Nat → Nat) (l : List Nat) (h : ∀ x ∈ l, rdE n D x = 0) : textQ n D l = textP n D l := by
  unfold textQ textP
  induction l with
  | nil => rfl
  | cons x l ih =>
    rw [List.flatMap_cons, List.flatMap_cons, ih fun y hy => h y (List.mem_cons_of_mem _ hy)]
    have hx := h x List.mem_cons_self
    unfold toldC toldA toldB
    simp only [if_pos hx]
theorem line_len (c : Nat) (a b : Int) (ha : -40000 ≤ a ∧ a ≤ 40000) (hb : -40000 ≤ b ∧ b ≤ 40000) : (lineP c a b).length ≤ 70 := by
  have h1 := Lib.itoa_length_le a (by omega) (by omega)
  have h2 := Lib.itoa_length_le b (by omega) (by omega)
  have h3 := nm_size c
  unfold lineP
  rw [List.length_append, List.length_append]
  split <;> split <;> simp <;> omega
theorem textQ_len {n : Nat} {D : Nat → Nat} (hD : ∀ i, i < n → D i < 256) (l : List Nat) : (textQ n D l).length ≤ 71 * l.length := by
  unfold textQ
  induction l with
  | nil => simp
  | cons x l ih =>
    rw [List.flatMap_cons, List.length_append, List.length_append]
    simp only [List.length_cons, List.length_nil]
    have hb := told_bd hD x
    have := line_len (toldC n D x) (toldA n D x) (toldB n D x) (by omega) (by omega)
    omega
def TxI (n : Nat) (D : Nat → Nat) (B b : Nat) (w2 : World) (pre : List (Fin n)) (W : World) : Prop := (∃ p v, Bd B b p v (textQ n D (pre.map Fin.val)) W) ∧ KpX B b 5 w2 W
theorem TxI.own {n : Nat} {D : Nat → Nat} {B b : Nat} {w2 : World} : OwnFrom B (TxI n D B b w2) := fun pre W W' row hs hg hr => by
  obtain ⟨⟨p, v, hv⟩, hk⟩ := hs
  have hx : KpX B b 5 W W' := KpX.non hv.s hg hr
  have hz : ∀ q C e t, W.heap[q]? = some (Obj.cells C e t) → W'.heap[q]? = some (Obj.cells C e t) := fun q C e t hq => (hg.block q (Array.getElem?_eq_some_iff.1 hq).1 (fun e2 => by
    obtain ⟨_, o, ho, hc⟩ := hr q e2.symm
    rw [hq] at ho
    cases ho
    cases hc)).trans hq
  refine ⟨⟨p, v, ⟨hz _ _ _ _ hv.h, hv.p, ⟨hv.o.1, ?_⟩, hv.b, Nat.le_trans hv.s hg.size⟩⟩, hk.t hx⟩
  rcases hv.o.2 with q | ⟨g2, cap, cur, h1, h2, h3, h4⟩
  · exact .inl q
  · exact .inr ⟨g2, cap, cur, h1, h2, hz _ _ _ _ h3, h4⟩
/-- The text of some bytes, if they are bytecodes. -/
def txS (n : Nat) (D : Nat → Nat) : List UInt8 := if (rdR n D).2 = 0 then textP n D (begs n D n 0) else []
def TxR (n : Nat) (D : Nat → Nat) (w : World) (e : Ending) (w' : World) : Prop := e = .returned (.tuple #[.string ⟨(txS n D).toArray⟩, .int .i64 (rdR n D).2]) ∧ Below w.heap.size w w'
theorem Bd.str {B b : Nat} {p v : Value} {l : List UInt8} {w : World} (h : Bd B b p v l w) : Calls Tryd.prog 38 #[.pointer (some ⟨b, 0, none⟩)] w fun e w' => e = .returned (.string ⟨l.toArray⟩) ∧ Below b w w' ∧ Lib.OthersKept 5 (some b) w w' := by
  have h1 := h.b
  have h2 := h.s
  have hat : Lib.BuilderAt 73 5 b b p (Lib.byteCells l) w := by
    refine ⟨Nat.le_refl _, v, h.h, ⟨?_, ?_⟩, h.ne⟩
    · simp [Lib.byteCells]
    · rcases h.o.2 with ⟨q1, q2⟩ | ⟨g, cap, cur, q1, q2, q3, q4, q5⟩
      · exact .inl ⟨q1, by simpa [Lib.byteCells] using q2⟩
      · exact .inr ⟨g, cap, cur, by simpa [Lib.byteCells] using q1, by omega, q3, by simpa [Lib.byteCells] using q4, by simpa [Lib.byteCells] using q5⟩
  have hF : Lib.IsBuilderF 73 5 b b (Lib.byteCells l) w := by
    rcases h.p with rfl | rfl
    · exact .inl (Lib.BuilderAtF.of hat)
    · exact .inr (Lib.BuilderAtF.of hat)
  refine (Tryd.Builder_String_any_k b b l w hF (by omega)).mono ?_
  rintro e w' ⟨rfl, _, h3, h4⟩
  exact ⟨rfl, h3, h4⟩
set_option maxRecDepth 100000 in
set_option maxHeartbeats 4000000 in
theorem text_bad (a : Option Addr) (n c : Nat) (D : Nat → Nat) (w : World) (hI : CodeIn w a n c D) (h0 : (rdR n D).2 ≠ 0) : Calls Tryd.prog 14 #[.slice a n c] w (TxR n D w) := by
  have HP := Lib.hid (pplaces_c a n c D w hI)
  have hs : txS n D = [] := if_neg h0
  have HF : Hid (∀ V, PpP n D w (.returned (.tuple #[.slice none 0 0, .int .i64 (rdR n D).2])) V → TxR n D w (.returned (.tuple #[.string ⟨#[]⟩, .int .i64 (rdR n D).2])) V) := Lib.hid fun V hV => ⟨by rw [hs], hV.1⟩
  have hd : ((rdR n D).2 != 0) = true := by simpa using h0
  have HPe : Hid (∀ e V, PpP n D w e V → e = .returned (.tuple #[.slice none 0 0, .int .i64 (rdR n D).2])) := Lib.hid fun e V hV => by
    have := hV.2
    rw [if_neg h0] at this
    exact this
  clear hI hs h0
  generalize TxR n D w = Q at HF ⊢
  generalize PpP n D w = Pq at HP HF HPe
  generalize (rdR n D).2 = er at hd HF HPe
  go_enter Tryd.func14, Tryd.ntmps14
  go_wp2_with (first | (go_at_call 12; refine HP.out.mono ?_; intro e w1 hw; obtain rfl := HPe.out _ _ hw; replace hw := Lib.hid (HF.out _ hw)))
  exact hw.out
set_option maxRecDepth 100000 in
set_option maxHeartbeats 4000000 in
theorem text_ok (a : Option Addr) (n c : Nat) (D : Nat → Nat) (w : World) (hI : CodeIn w a n c D) (hT : Tbs w) (h0 : (rdR n D).2 = 0) : Calls Tryd.prog 14 #[.slice a n c] w (TxR n D w) := by
  have HP := Lib.hid (pplaces_c a n c D w hI)
  have HTx : Hid (∀ (l : List Nat) (V : World), l = begs n D n 0 → Below w.heap.size w V → TxR n D w (.returned (.tuple #[.string ⟨(textQ n D l).toArray⟩, .int .i64 0])) V) := Lib.hid fun l V hl hV => by
    refine ⟨?_, hV⟩
    unfold txS
    rw [if_pos h0, h0, hl, textQ_P n D _ (begs_rd n D n 0)]
  have HC := Lib.hid hI
  have HT := Lib.hid hT
  clear hI hT
  generalize TxR n D w = QQ at HTx ⊢
  refine (callsIn_wide (n := 6)).1 ?_
  refine callsIn_of_wp_marks Tryd.func14 rfl trivial ?_ rfl
  simp only [Tryd.ntmps14, List.size_toArray, List.length_cons, List.length_nil, Nat.reduceAdd, Nat.reduceSub, Array.replicate_succ, Array.replicate_zero, List.push_toArray, List.append_toArray, List.nil_append, List.cons_append]
  refine wpIn_wide.2 ?_
  go_wp2_with fail
  refine HP.out.mono ?_
  rintro e w1 ⟨hb, hr⟩
  rw [if_pos h0] at hr
  obtain ⟨x, cx, rfl, hx⟩ := hr
  have HB1 := Lib.hid hb
  have HTn := Lib.hid (HT.out.below (hb.alloc hb.size (.cells #[.pointer none, .slice none 0 0] 73)))
  clear hx hb
  go_wp2_with (first | (go_at_call 34; refine (fields_c _ HTn.out).mono ?_; rintro e w2 ⟨rfl, hw⟩; obtain rfl := hw))
  obtain ⟨W3, hW3⟩ : ∃ q, q = ((w1.alloc (.cells #[.pointer none, .slice none 0 0] 73)).alloc (.cells nmV 9)).alloc (.cells #[.slice (some ⟨w1.heap.size + 1, 0, none⟩) 41 41] 74) := ⟨_, rfl⟩
  rw [← hW3]
  have HW3 : Hid (Bx W3 w1.heap.size #[.pointer none, .slice none 0 0] 73 ∧ Bx W3 (w1.heap.size + 1) nmV 9 ∧ Bx W3 (w1.heap.size + 2) #[.slice (some ⟨w1.heap.size + 1, 0, none⟩) 41 41] 74 ∧ Below w.heap.size w W3 ∧ W3.heap.size = w1.heap.size + 3) := Lib.hid (by
    rw [hW3]
    have e1 : (w1.alloc (.cells #[.pointer none, .slice none 0 0] 73)).heap.size = w1.heap.size + 1 := World.size_alloc _ _
    have e2 : ((w1.alloc (.cells #[.pointer none, .slice none 0 0] 73)).alloc (.cells nmV 9)).heap.size = w1.heap.size + 2 := by rw [World.size_alloc, e1]
    have b1 := Bx.new (w1.alloc (.cells #[.pointer none, .slice none 0 0] 73)) nmV 9
    have b2 := Bx.new ((w1.alloc (.cells #[.pointer none, .slice none 0 0] 73)).alloc (.cells nmV 9)) #[.slice (some ⟨w1.heap.size + 1, 0, none⟩) 41 41] 74
    rw [e1] at b1
    rw [e2] at b2
    have hs := HB1.out.size
    exact ⟨((Bx.new w1 _ _).alloc _).alloc _, b1.alloc _, b2, ((HB1.out.alloc hs _).alloc (by omega) _).alloc (by omega) _, by rw [World.size_alloc, e2]⟩)
  clear hW3
  have HAll := Lib.hid (all_c a n c D W3 (HC.out.kept (Kept.of HW3.out.2.2.2.1)))
  go_wp2_with fail
  refine HAll.out.mono ?_
  rintro e w2 ⟨A2, c2, bx, rfl, hbx, hbx2, hcode, hb2⟩
  have HB2 := Lib.hid hb2
  have HX2 := Lib.hid hbx
  have HC2 := Lib.hid hcode
  have hs2 : W3.heap.size ≤ w2.heap.size := hb2.size
  clear hb2 hbx hcode
  go_wp2
  refine (wpIn_wide (n := 6)).1 ?_
  obtain ⟨b, hbb⟩ : ∃ q, q = w1.heap.size := ⟨_, rfl⟩
  obtain ⟨B, hBB⟩ : ∃ q, q = w2.heap.size := ⟨_, rfl⟩
  have HN : Hid (b + 3 ≤ B ∧ w.heap.size ≤ b) := Lib.hid (by have := HW3.out.2.2.2.2; have := HB1.out.size; exact ⟨by omega, by omega⟩)
  have HX1 : Hid (Bx w2 b #[.pointer none, .slice none 0 0] 73 ∧ Bx w2 (b + 1) nmV 9 ∧ Bx w2 (b + 2) #[.slice (some ⟨b + 1, 0, none⟩) 41 41] 74 ∧ Below w.heap.size w w2) := Lib.hid (by
    have hsz := HW3.out.2.2.2.1.size
    rw [hbb]
    exact ⟨HW3.out.1.below HB2.out, HW3.out.2.1.below HB2.out, HW3.out.2.2.1.below HB2.out, HW3.out.2.2.2.1.trans (HB2.out.mono hsz)⟩)
  have HCK : Hid (CodeK (Zs B b 5) w2 A2 n c2 D) := Lib.hid (HC2.out _ (fun q e h1 h2 => by
    have h3 := HW3.out.2.2.2.2
    rintro (h4 | ⟨_, h4⟩)
    · omega
    · omega))
  rw [show w1.heap.size + 1 + 1 = b + 2 by omega, ← hbb]
  have hZ : ∀ q, w2.heap.size ≤ q → ¬ Zs B b 5 q 25 := fun q h1 => by
    rintro (h4 | ⟨h4, _⟩)
    · have := HN.out; omega
    · exact absurd h4 (by decide)
  clear hbb hs2 HB2 HW3 HAll HTn HB1 HP HC2
  refine range4 (r := 9) (by decide) (gf := 41) (lb := #[.pointer (some ⟨bx, 0, none⟩)]) rfl (fun args w => rfl) (E := fun x => opsS n D x.val)
    (all1_stops (Zs B b 5) bx A2 n c2 D w2 HCK.out hZ HX2.out) (fun h k => KpZ.t h k) (fun W l o o' _ h1 h2 _ => KpZ.put W l o o' h1 h2) (KpZ.alloc _) (Below.refl _ _)
    (TxI n D B b w2)
    (fun _ _ _ => False)
    (hBB ▸ TxI.own)
    (fun _ _ _ _ _ hs _ _ => hs) (fun _ _ h => h.2.size) ⟨⟨_, _, ⟨HX1.out.1, .inl rfl, World.ownsRow_nil _ _ _ _, by have := HN.out; omega, by omega⟩⟩, KpX.refl _ _ _ _⟩ (fun t x => t) ?assign ?body ?done ?stop
  case assign =>
    intro l x W KK hKK
    simp only [List.setIfInBounds_toArray, List.set_cons_succ, List.set_cons_zero, opsS_told, ret4] at hKK ⊢
    gi_wp2
    exact hKK
  case body =>
    rintro l pre x b8 W ⟨hb, hx⟩ h8 h8c hlt
    simp only [List.setIfInBounds_toArray, List.set_cons_succ, List.set_cons_zero]
    obtain ⟨k, hk⟩ := x
    rw [opsS_told] at h8c
    have hm : (pre ++ [(⟨k, hk⟩ : Fin n)]).map Fin.val = pre.map Fin.val ++ [k] := by simp
    have HL : Hid (textQ n D ((pre ++ [(⟨k, hk⟩ : Fin n)]).map Fin.val) = textQ n D (pre.map Fin.val) ++ (lineP (toldC n D k) (toldA n D k) (toldB n D k) ++ [10])) := Lib.hid (by
      rw [hm]
      unfold textQ
      rw [List.flatMap_append]
      simp)
    have hln := textQ_len HC.out.byt (pre.map Fin.val)
    rw [List.length_map] at hln
    have hn5 := HC.out.big
    have hcc := toldC_lt n D k
    have hbd := told_bd HC.out.byt k
    have hhi : Hid (∀ V, TxI n D B b w2 (pre ++ [⟨k, hk⟩]) V → True) := Lib.hid fun _ _ => trivial
    clear hhi
    generalize textQ n D (pre.map Fin.val) = L0 at hb HL hln
    obtain ⟨HT1, hHT1⟩ : ∃ q : Prop, q = True := ⟨_, rfl⟩
    clear hHT1 HT1 hm
    simp only [opsS_told, ret4]
    generalize toldC n D k = cc at *
    generalize toldA n D k = aa at *
    generalize toldB n D k = bb at *
    generalize toldS n D k = ss at *
    have HX := Lib.hid hx
    have H8 : Hid (Bx W b8 #[.int .i64 (cc : Nat), .int .i64 aa, .int .i64 bb, .int .i64 ss] 25) := Lib.hid h8c
    obtain ⟨p, v, hv⟩ := hb
    have HV := Lib.hid hv
    have hnn := HN.out
    have q1 : W.heap[b + 1]? = w2.heap[b + 1]? := hx.block (b + 1) (by omega) (by omega)
    have q2 : W.heap[b + 2]? = w2.heap[b + 2]? := hx.block (b + 2) (by omega) (by omega)
    have HNm : Hid (Bx W (b + 1) nmV 9) := Lib.hid (q1.trans HX1.out.2.1)
    have HTb : Hid (∀ V, KpX B b 5 W V → Tbs V) := Lib.hid fun V hV => HT.out.below (HX1.out.2.2.2.trans ((hx.t hV).of hnn.2 (by omega)))
    have z1 : W.cell? ⟨b + 2, 0, none⟩ = some (.slice (some ⟨b + 1, 0, none⟩) 41 41) := Bx.cell (C := #[.slice (some ⟨b + 1, 0, none⟩) 41 41]) (e := 74) (q2.trans HX1.out.2.2.1) 0
    have z2 : W.cell? ⟨b8, 0, none⟩ = some (.int .i64 (cc : Nat)) := H8.out.cell 0
    have z3 : W.cell? ⟨b + 1, cc, none⟩ = some (.string ⟨(nmC cc).toArray⟩) := (HNm.out.cell cc).trans (nmV_at hcc)
    have hcc' : (cc : Int) < 41 := by omega
    clear hx hv h8c q1 q2
    have HBx : Hid (∀ V, KpX B b 5 W V → Bx V b8 #[.int .i64 (cc : Nat), .int .i64 aa, .int .i64 bb, .int .i64 ss] 25) := Lib.hid fun V hV => hV.z.bx H8.out (hZ _ (by omega))
    gi_wp2_with (fail)
    refine ⟨trivial, ?_⟩
    refine (CallsIn.inRound l (callsIn_wide.2 (wstr_c B b p v L0 (nmC cc) W HV.out (by omega) (by have := nm_size cc; omega)))).mono ?_
    rintro e V1 ⟨rfl, hr1⟩
    have S1 : Hid (TxS B b W (L0 ++ nmC cc) V1) := Lib.hid (TxS.wr ⟨⟨p, v, HV.out⟩, KpX.refl _ _ _ _, KpY.refl _⟩ hr1)
    clear hr1 z1 z2 z3
    have z2 : V1.cell? ⟨b8, 0, none⟩ = some (.int .i64 (cc : Nat)) := (HBx.out V1 S1.out.x).cell 0
    gi_wp2_with (fail)
    clear z2
    refine ⟨trivial, ?_⟩
    refine (CallsIn.inRound l (callsIn_wide.2 (_root_.Go.Proofs.YtgdlcnngplfjnaaDoor.operands_c (cc : Int) V1))).mono ?_
    rintro e V1' ⟨rfl, hw⟩
    obtain rfl := hw.symm
    clear hw
    have hnm := nm_size cc
    have hlp : lineP cc aa bb = nmC cc ++ (if kindO (cc : Int) = 0 then [] else 32 :: Lib.itoa aa) ++ (if kindO (cc : Int) = 4 then 32 :: Lib.itoa bb else []) := rfl
    rw [hlp] at HL
    clear hlp
    have hla := Lib.itoa_length_le aa (by omega) (by omega)
    have hlb := Lib.itoa_length_le bb (by omega) (by omega)
    have HF : Hid (∀ V, TxS B b W (textQ n D ((pre ++ [(⟨k, hk⟩ : Fin n)]).map Fin.val)) V → ownPostG w2.heap.size (KpZ (Zs B b 5)) (TxI n D B b w2) (fun _ _ _ => False) (pre ++ [(⟨k, hk⟩ : Fin n)]) W .normal { tmps := #[], defers := [] } V) := Lib.hid fun V hV => ⟨⟨hV.x.size, fun q o hq ho hoc => hV.y q o ho hoc⟩, hV.x.z, hV.d, HX.out.t hV.x⟩
    rcases kindO_cs (cc : Int) with hkd | hkd | hkd | hkd | hkd
    · rw [hkd] at HL ⊢
      have hS : kindS 0 = ⟨#[]⟩ := rfl
      rw [hS]
      have HG := Lib.hid (TxG.begin S1.out ⟨#[]⟩)
      obtain ⟨g, hg⟩ : ∃ q, q = V1.heap.size := ⟨_, rfl⟩
      rw [← hg] at HG
      gi_wp2_with (fail)
      rw [← hg]
      clear hg
      generalize V1.iter ⟨#[]⟩ 0 = X0 at HG ⊢
      refine wpIn_loop_rounds 1 ?_
      rw [roundsIn_succ]
      have q := fun ty => next_n X0 g ⟨#[]⟩ 0 HG.out.it (by decide) ty
      gi_wp2_with (fail)
      clear q
      refine ⟨trivial, ?_⟩
      refine (CallsIn.inRound l (callsIn_wide.2 (HG.out.t.byte 10 10 rfl (by simp only [List.length_append, List.length_cons, List.length_nil]; omega)))).mono ?_
      rintro e Vz ⟨rfl, hr⟩
      have HZ := Lib.hid (HG.out.t.wr hr)
      clear hr HG
      gi_wp2_with (fail)
      refine HF.out _ ?_
      rw [HL.out]
      simpa [List.append_assoc] using HZ.out
    · rw [hkd] at HL ⊢
      have hS : kindS 1 = ⟨#[117]⟩ := rfl
      rw [hS]
      have HG := Lib.hid (TxG.begin S1.out ⟨#[117]⟩)
      obtain ⟨g, hg⟩ : ∃ q, q = V1.heap.size := ⟨_, rfl⟩
      rw [← hg] at HG
      gi_wp2_with (fail)
      rw [← hg]
      clear hg
      generalize V1.iter ⟨#[117]⟩ 0 = X0 at HG ⊢
      refine wpIn_loop_rounds 2 ?_
      rw [roundsIn_succ]
      have q := fun ty => next_y X0 g ⟨#[117]⟩ 0 1 117 rfl HG.out.it (by decide) (by decide) rfl ty
      have HG1 := Lib.hid (HG.out.nxt 1)
      gi_wp2_with (fail)
      clear q HG
      generalize (X0.putObj g (.stringIter ⟨#[117]⟩ 1)) = X0a at HG1 ⊢
      refine ⟨trivial, ?_⟩
      refine (CallsIn.inRound l (callsIn_wide.2 (HG1.out.t.byte 32 32 rfl (by simp only [List.length_append, List.length_cons, List.length_nil]; omega)))).mono ?_
      rintro e X0b ⟨rfl, hr⟩
      have HG2 := Lib.hid (HG1.out.wr hr)
      clear hr HG1
      have y1 : X0b.cell? ⟨b8, 1, none⟩ = some (.int .i64 aa) := (HBx.out _ HG2.out.t.x).cell 1
      have y2 : X0b.cell? ⟨b8, 2, none⟩ = some (.int .i64 bb) := (HBx.out _ HG2.out.t.x).cell 2
      have ix : ∀ V, (Instr.index 81 (.agg #[.int .i64 aa, .int .i64 bb]) (.int .i64 0)).run Tryd.prog V = .ok (.int .i64 aa) V := fun V => by kernel_rfl
      gi_wp2_with (fail)
      clear y1 y2 ix
      refine ⟨trivial, ?_⟩
      refine (CallsIn.inRound l (callsIn_wide.2 (itoa_c aa (by omega) (by omega) X0b (HTb.out _ HG2.out.t.x)))).mono ?_
      rintro e X0c ⟨rfl, hb3⟩
      have HG3 := Lib.hid (HG2.out.far hb3)
      clear hb3 HG2
      gi_wp2_with (fail)
      refine ⟨trivial, ?_⟩
      refine (CallsIn.inRound l (callsIn_wide.2 (HG3.out.t.str (Lib.itoa aa) (by simp only [List.length_append, List.length_cons, List.length_nil]; omega) (by omega)))).mono ?_
      rintro e X0d ⟨rfl, hr⟩
      have HG := Lib.hid (HG3.out.wr hr)
      clear hr HG3
      gi_wp2_with (fail)
      rw [roundsIn_succ]
      have q := fun ty => next_n X0d g ⟨#[117]⟩ 1 HG.out.it (by decide) ty
      gi_wp2_with (fail)
      clear q
      refine ⟨trivial, ?_⟩
      refine (CallsIn.inRound l (callsIn_wide.2 (HG.out.t.byte 10 10 rfl (by simp only [List.length_append, List.length_cons, List.length_nil]; omega)))).mono ?_
      rintro e Vz ⟨rfl, hr⟩
      have HZ := Lib.hid (HG.out.t.wr hr)
      clear hr HG
      gi_wp2_with (fail)
      refine HF.out _ ?_
      rw [HL.out]
      simpa [List.append_assoc] using HZ.out
    · rw [hkd] at HL ⊢
      have hS : kindS 2 = ⟨#[115]⟩ := rfl
      rw [hS]
      have HG := Lib.hid (TxG.begin S1.out ⟨#[115]⟩)
      obtain ⟨g, hg⟩ : ∃ q, q = V1.heap.size := ⟨_, rfl⟩
      rw [← hg] at HG
      gi_wp2_with (fail)
      rw [← hg]
      clear hg
      generalize V1.iter ⟨#[115]⟩ 0 = X0 at HG ⊢
      refine wpIn_loop_rounds 2 ?_
      rw [roundsIn_succ]
      have q := fun ty => next_y X0 g ⟨#[115]⟩ 0 1 115 rfl HG.out.it (by decide) (by decide) rfl ty
      have HG1 := Lib.hid (HG.out.nxt 1)
      gi_wp2_with (fail)
      clear q HG
      generalize (X0.putObj g (.stringIter ⟨#[115]⟩ 1)) = X0a at HG1 ⊢
      refine ⟨trivial, ?_⟩
      refine (CallsIn.inRound l (callsIn_wide.2 (HG1.out.t.byte 32 32 rfl (by simp only [List.length_append, List.length_cons, List.length_nil]; omega)))).mono ?_
      rintro e X0b ⟨rfl, hr⟩
      have HG2 := Lib.hid (HG1.out.wr hr)
      clear hr HG1
      have y1 : X0b.cell? ⟨b8, 1, none⟩ = some (.int .i64 aa) := (HBx.out _ HG2.out.t.x).cell 1
      have y2 : X0b.cell? ⟨b8, 2, none⟩ = some (.int .i64 bb) := (HBx.out _ HG2.out.t.x).cell 2
      have ix : ∀ V, (Instr.index 81 (.agg #[.int .i64 aa, .int .i64 bb]) (.int .i64 0)).run Tryd.prog V = .ok (.int .i64 aa) V := fun V => by kernel_rfl
      gi_wp2_with (fail)
      clear y1 y2 ix
      refine ⟨trivial, ?_⟩
      refine (CallsIn.inRound l (callsIn_wide.2 (itoa_c aa (by omega) (by omega) X0b (HTb.out _ HG2.out.t.x)))).mono ?_
      rintro e X0c ⟨rfl, hb3⟩
      have HG3 := Lib.hid (HG2.out.far hb3)
      clear hb3 HG2
      gi_wp2_with (fail)
      refine ⟨trivial, ?_⟩
      refine (CallsIn.inRound l (callsIn_wide.2 (HG3.out.t.str (Lib.itoa aa) (by simp only [List.length_append, List.length_cons, List.length_nil]; omega) (by omega)))).mono ?_
      rintro e X0d ⟨rfl, hr⟩
      have HG := Lib.hid (HG3.out.wr hr)
      clear hr HG3
      gi_wp2_with (fail)
      rw [roundsIn_succ]
      have q := fun ty => next_n X0d g ⟨#[115]⟩ 1 HG.out.it (by decide) ty
      gi_wp2_with (fail)
      clear q
      refine ⟨trivial, ?_⟩
      refine (CallsIn.inRound l (callsIn_wide.2 (HG.out.t.byte 10 10 rfl (by simp only [List.length_append, List.length_cons, List.length_nil]; omega)))).mono ?_
      rintro e Vz ⟨rfl, hr⟩
      have HZ := Lib.hid (HG.out.t.wr hr)
      clear hr HG
      gi_wp2_with (fail)
      refine HF.out _ ?_
      rw [HL.out]
      simpa [List.append_assoc] using HZ.out
    · rw [hkd] at HL ⊢
      have hS : kindS 3 = ⟨#[111]⟩ := rfl
      rw [hS]
      have HG := Lib.hid (TxG.begin S1.out ⟨#[111]⟩)
      obtain ⟨g, hg⟩ : ∃ q, q = V1.heap.size := ⟨_, rfl⟩
      rw [← hg] at HG
      gi_wp2_with (fail)
      rw [← hg]
      clear hg
      generalize V1.iter ⟨#[111]⟩ 0 = X0 at HG ⊢
      refine wpIn_loop_rounds 2 ?_
      rw [roundsIn_succ]
      have q := fun ty => next_y X0 g ⟨#[111]⟩ 0 1 111 rfl HG.out.it (by decide) (by decide) rfl ty
      have HG1 := Lib.hid (HG.out.nxt 1)
      gi_wp2_with (fail)
      clear q HG
      generalize (X0.putObj g (.stringIter ⟨#[111]⟩ 1)) = X0a at HG1 ⊢
      refine ⟨trivial, ?_⟩
      refine (CallsIn.inRound l (callsIn_wide.2 (HG1.out.t.byte 32 32 rfl (by simp only [List.length_append, List.length_cons, List.length_nil]; omega)))).mono ?_
      rintro e X0b ⟨rfl, hr⟩
      have HG2 := Lib.hid (HG1.out.wr hr)
      clear hr HG1
      have y1 : X0b.cell? ⟨b8, 1, none⟩ = some (.int .i64 aa) := (HBx.out _ HG2.out.t.x).cell 1
      have y2 : X0b.cell? ⟨b8, 2, none⟩ = some (.int .i64 bb) := (HBx.out _ HG2.out.t.x).cell 2
      have ix : ∀ V, (Instr.index 81 (.agg #[.int .i64 aa, .int .i64 bb]) (.int .i64 0)).run Tryd.prog V = .ok (.int .i64 aa) V := fun V => by kernel_rfl
      gi_wp2_with (fail)
      clear y1 y2 ix
      refine ⟨trivial, ?_⟩
      refine (CallsIn.inRound l (callsIn_wide.2 (itoa_c aa (by omega) (by omega) X0b (HTb.out _ HG2.out.t.x)))).mono ?_
      rintro e X0c ⟨rfl, hb3⟩
      have HG3 := Lib.hid (HG2.out.far hb3)
      clear hb3 HG2
      gi_wp2_with (fail)
      refine ⟨trivial, ?_⟩
      refine (CallsIn.inRound l (callsIn_wide.2 (HG3.out.t.str (Lib.itoa aa) (by simp only [List.length_append, List.length_cons, List.length_nil]; omega) (by omega)))).mono ?_
      rintro e X0d ⟨rfl, hr⟩
      have HG := Lib.hid (HG3.out.wr hr)
      clear hr HG3
      gi_wp2_with (fail)
      rw [roundsIn_succ]
      have q := fun ty => next_n X0d g ⟨#[111]⟩ 1 HG.out.it (by decide) ty
      gi_wp2_with (fail)
      clear q
      refine ⟨trivial, ?_⟩
      refine (CallsIn.inRound l (callsIn_wide.2 (HG.out.t.byte 10 10 rfl (by simp only [List.length_append, List.length_cons, List.length_nil]; omega)))).mono ?_
      rintro e Vz ⟨rfl, hr⟩
      have HZ := Lib.hid (HG.out.t.wr hr)
      clear hr HG
      gi_wp2_with (fail)
      refine HF.out _ ?_
      rw [HL.out]
      simpa [List.append_assoc] using HZ.out
    · rw [hkd] at HL ⊢
      have hS : kindS 4 = ⟨#[117, 117]⟩ := rfl
      rw [hS]
      have HG := Lib.hid (TxG.begin S1.out ⟨#[117, 117]⟩)
      obtain ⟨g, hg⟩ : ∃ q, q = V1.heap.size := ⟨_, rfl⟩
      rw [← hg] at HG
      gi_wp2_with (fail)
      rw [← hg]
      clear hg
      generalize V1.iter ⟨#[117, 117]⟩ 0 = X0 at HG ⊢
      refine wpIn_loop_rounds 3 ?_
      rw [roundsIn_succ]
      have q := fun ty => next_y X0 g ⟨#[117, 117]⟩ 0 1 117 rfl HG.out.it (by decide) (by decide) rfl ty
      have HG1 := Lib.hid (HG.out.nxt 1)
      gi_wp2_with (fail)
      clear q HG
      generalize (X0.putObj g (.stringIter ⟨#[117, 117]⟩ 1)) = X0a at HG1 ⊢
      refine ⟨trivial, ?_⟩
      refine (CallsIn.inRound l (callsIn_wide.2 (HG1.out.t.byte 32 32 rfl (by simp only [List.length_append, List.length_cons, List.length_nil]; omega)))).mono ?_
      rintro e X0b ⟨rfl, hr⟩
      have HG2 := Lib.hid (HG1.out.wr hr)
      clear hr HG1
      have y1 : X0b.cell? ⟨b8, 1, none⟩ = some (.int .i64 aa) := (HBx.out _ HG2.out.t.x).cell 1
      have y2 : X0b.cell? ⟨b8, 2, none⟩ = some (.int .i64 bb) := (HBx.out _ HG2.out.t.x).cell 2
      have ix : ∀ V, (Instr.index 81 (.agg #[.int .i64 aa, .int .i64 bb]) (.int .i64 0)).run Tryd.prog V = .ok (.int .i64 aa) V := fun V => by kernel_rfl
      gi_wp2_with (fail)
      clear y1 y2 ix
      refine ⟨trivial, ?_⟩
      refine (CallsIn.inRound l (callsIn_wide.2 (itoa_c aa (by omega) (by omega) X0b (HTb.out _ HG2.out.t.x)))).mono ?_
      rintro e X0c ⟨rfl, hb3⟩
      have HG3 := Lib.hid (HG2.out.far hb3)
      clear hb3 HG2
      gi_wp2_with (fail)
      refine ⟨trivial, ?_⟩
      refine (CallsIn.inRound l (callsIn_wide.2 (HG3.out.t.str (Lib.itoa aa) (by simp only [List.length_append, List.length_cons, List.length_nil]; omega) (by omega)))).mono ?_
      rintro e X0d ⟨rfl, hr⟩
      have HG := Lib.hid (HG3.out.wr hr)
      clear hr HG3
      gi_wp2_with (fail)
      rw [roundsIn_succ]
      have q := fun ty => next_y X0d g ⟨#[117, 117]⟩ 1 2 117 rfl HG.out.it (by decide) (by decide) rfl ty
      have HG1 := Lib.hid (HG.out.nxt 2)
      gi_wp2_with (fail)
      clear q HG
      generalize (X0d.putObj g (.stringIter ⟨#[117, 117]⟩ 2)) = X0da at HG1 ⊢
      refine ⟨trivial, ?_⟩
      refine (CallsIn.inRound l (callsIn_wide.2 (HG1.out.t.byte 32 32 rfl (by simp only [List.length_append, List.length_cons, List.length_nil]; omega)))).mono ?_
      rintro e X0db ⟨rfl, hr⟩
      have HG2 := Lib.hid (HG1.out.wr hr)
      clear hr HG1
      have y1 : X0db.cell? ⟨b8, 1, none⟩ = some (.int .i64 aa) := (HBx.out _ HG2.out.t.x).cell 1
      have y2 : X0db.cell? ⟨b8, 2, none⟩ = some (.int .i64 bb) := (HBx.out _ HG2.out.t.x).cell 2
      have ix : ∀ V, (Instr.index 81 (.agg #[.int .i64 aa, .int .i64 bb]) (.int .i64 1)).run Tryd.prog V = .ok (.int .i64 bb) V := fun V => by kernel_rfl
      gi_wp2_with (fail)
      clear y1 y2 ix
      refine ⟨trivial, ?_⟩
      refine (CallsIn.inRound l (callsIn_wide.2 (itoa_c bb (by omega) (by omega) X0db (HTb.out _ HG2.out.t.x)))).mono ?_
      rintro e X0dc ⟨rfl, hb3⟩
      have HG3 := Lib.hid (HG2.out.far hb3)
      clear hb3 HG2
      gi_wp2_with (fail)
      refine ⟨trivial, ?_⟩
      refine (CallsIn.inRound l (callsIn_wide.2 (HG3.out.t.str (Lib.itoa bb) (by simp only [List.length_append, List.length_cons, List.length_nil]; omega) (by omega)))).mono ?_
      rintro e X0dd ⟨rfl, hr⟩
      have HG := Lib.hid (HG3.out.wr hr)
      clear hr HG3
      gi_wp2_with (fail)
      rw [roundsIn_succ]
      have q := fun ty => next_n X0dd g ⟨#[117, 117]⟩ 2 HG.out.it (by decide) ty
      gi_wp2_with (fail)
      clear q
      refine ⟨trivial, ?_⟩
      refine (CallsIn.inRound l (callsIn_wide.2 (HG.out.t.byte 10 10 rfl (by simp only [List.length_append, List.length_cons, List.length_nil]; omega)))).mono ?_
      rintro e Vz ⟨rfl, hr⟩
      have HZ := Lib.hid (HG.out.t.wr hr)
      clear hr HG
      gi_wp2_with (fail)
      refine HF.out _ ?_
      rw [HL.out]
      simpa [List.append_assoc] using HZ.out
  case stop =>
    rintro D2 c pre W _ _ h _
    exact h.elim
  case done =>
    rintro D2 xs W hD hxs ⟨⟨p, v, hv⟩, hx⟩ hK
    have HS := Lib.hid hv.str
    have HB : Hid (∀ V, Below b W V → Below w.heap.size w V) := Lib.hid fun V hV => by
      have h1 := HN.out
      exact (HX1.out.2.2.2.trans (hx.of h1.2 (by omega))).trans (hV.mono h1.2)
    have HKd : Hid (∀ V, Lib.OthersKept 5 (some b) W V → V.heap[D2]? = some (.deferred (some []))) := Lib.hid fun V hV => hV D2 _ hK (fun q => by injection q with q; have := HN.out; omega) (fun _ _ q => by cases q)
    have HQ := Lib.hid (HTx.out (xs.map Fin.val))
    have HXs := Lib.hid hxs
    have HDl : Hid (w.heap.size ≤ D2) := Lib.hid (by have := HN.out; omega)
    clear hv hx hxs hK hD
    generalize textQ n D (xs.map Fin.val) = LL at HS HQ
    go_wp2_with fail
    refine HS.out.mono ?_
    rintro e V ⟨rfl, hb3, hk3⟩
    have HD := Lib.hid (HKd.out V hk3)
    have HBV := Lib.hid (HB.out V hb3)
    clear hb3 hk3
    go_wp2_with fail
    refine ⟨by simp, .inl ⟨_, _, rfl, run_takeDeferred HD.out, ?_⟩⟩
    refine ⟨_, results_tmp2 rfl _ _ _, ?_⟩
    have hg := grownBy_putObj' V D2 (.deferred none)
    refine (show QQ (.returned (.tuple #[.string ⟨LL.toArray⟩, .int .i64 0])) _ from HQ.out _ HXs.out ?_)
    exact HBV.out.grown hg HBV.out.size (fun k hk => by injection hk with hk; have := HDl.out; omega)
theorem text_c (a : Option Addr) (n c : Nat) (D : Nat → Nat) (w : World) (hI : CodeIn w a n c D) (hT : Tbs w) : Calls Tryd.prog 14 #[.slice a n c] w (TxR n D w) := by
  by_cases h0 : (rdR n D).2 = 0
  · exact text_ok a n c D w hI hT h0
  · exact text_bad a n c D w hI h0
end Go.Proofs.YtgdlcnngplfjnaaDoor.Co
