import Derived.Test.YtgdlcnngplfjnaaDoorRl
import Derived.Test.YtgdlcnngplfjnaaDoorXc
import Derived.BigGuardPart
import Derived.LoopIn
import Derived.LoopNIn
import Derived.OwnWalkIn
import Derived.RangeFuncBound
import Derived.RangeFuncBox
import Derived.RangeFuncCalls
import Derived.RangeFuncLeaves
import Derived.RangeFuncNested
import Derived.Shelf.RegionOpen
import Derived.TacticsInMore
import Derived.Laws.BitsLemmas
import Derived.IntWalk
import Derived.Laws.BitsAllLaws
import Derived.Deep.DrawnRows
import Derived.WalkKit
import Derived.ProofKit
import Derived.OpenShut
import Derived.Deep.QuietTactic
import Derived.BigQuiet
import Derived.Outline
import Derived.WalkSmall
import Derived.WalkLawsBesides
import Derived.WalkSpells
import Derived.BigGuardPart
import Derived.RegionTactic
import Derived.Deep.RegionHeld3
import Derived.Lib.Hide
import Derived.Deep.MidRow
import Derived.Below
import Derived.Deep.RegionWith
import Derived.Deep.OwnRows
import Derived.Deep.AppendLies
import Derived.Deep.RegionLaw
import Derived.Deep.CutBlock
import Derived.Deep.DeepCutAuto
import Derived.Lib.AppendStr
import Derived.Lib.Builder
namespace Go.Proofs.YtgdlcnngplfjnaaDoor.Co
open Go.Shelf Go.ChangeShapes Go.WideShapes Go.ChangeAt Go.RowKit Go.Proofs.YtgdlcnngplfjnaaDoor.Vf
set_option linter.unusedVariables false
/-! ### The document's Text (15) -/
theorem conv_own {w : World} {B : Nat} {v : Value} {l : List UInt8} (h : w.ownsRow B 5 1 v l.length (Lib.byteCells l)) : (convert 22 9 v).run Tryd.prog w = .ok (.string ⟨l.toArray⟩) w := by
  obtain ⟨x, cx, rfl⟩ := own_slice h
  have hb : Bys w x (l.map fun b => ((b.toNat : Nat) : Int)) := Bys.own (B := B) (c := cx) (n := l.length) (by
    have e : (l.map fun b => ((b.toNat : Nat) : Int)).map (Value.int .u8) = Lib.byteCells l := by
      unfold Lib.byteCells
      rw [List.map_map]
      rfl
    rw [e]
    exact h) (by simp)
  have hc := conv_bys w x cx _ hb
  rw [List.length_map] at hc
  have hs : strOfNums (l.map fun b => ((b.toNat : Nat) : Int)) = ⟨l.toArray⟩ := by
    unfold strOfNums
    rw [List.map_map]
    have : (l.map ((fun n : Int => UInt8.ofNat n.toNat) ∘ fun b => ((b.toNat : Nat) : Int))) = l := by
      conv => rhs; rw [← List.map_id l]
      apply List.map_congr_left
      intro b _
      simp
    rw [this]
  rw [hs] at hc
  exact hc
theorem begs_code {n : Nat} {D : Nat → Nat} {x : Nat} (h : rdE n D x = 0) : D x < 41 := by
  unfold rdE at h
  split at h
  · cases h
  · omega
set_option maxRecDepth 100000 in
set_option maxHeartbeats 4000000 in
theorem rtext_c (a : Option Addr) (n c : Nat) (D : Nat → Nat) (w : World) (hI : CodeIn w a n c D) : Calls Tryd.prog 15 #[.slice a n c] w (TxR n D w) := by
  obtain ⟨i0, hi, hz0, hz1, hz2⟩ := info_parts info5x
  have HP := Lib.hid (places_c a n c D w hI)
  have HC := Lib.hid hI
  have hn5 := hI.big
  clear hI
  by_cases h0 : (rdR n D).2 = 0
  case neg =>
    have hs : txS n D = [] := if_neg h0
    have HF : Hid (∀ V, Below w.heap.size w V → TxR n D w (.returned (.tuple #[.string ⟨#[]⟩, .int .i64 (rdR n D).2])) V) := Lib.hid fun V hV => ⟨by rw [hs], hV⟩
    have hd : ((rdR n D).2 != 0) = true := by simpa using h0
    have HPe : Hid (∀ e V, PlcP n D w e V → e = .returned (.tuple #[.slice none 0 0, .int .i64 (rdR n D).2, .int .i64 ((rdR n D).1 : Nat)]) ∧ Below w.heap.size w V) := Lib.hid fun e V hV => by
      have := hV.2
      rw [if_neg h0] at this
      exact ⟨this, hV.1⟩
    clear hs h0
    generalize TxR n D w = Q at HF ⊢
    generalize PlcP n D w = Pq at HP HPe
    generalize (rdR n D).2 = er at hd HF HPe
    generalize (rdR n D).1 = pr at HPe
    go_enter Tryd.func15, Tryd.ntmps15
    go_wp2_with (first | (go_at_call 13; refine HP.out.mono ?_; intro e w1 hw; obtain ⟨rfl, hw2⟩ := HPe.out _ _ hw; replace hw := Lib.hid (HF.out _ hw2); replace hw2 := Lib.hid hw2))
    exact hw.out
  have HTx : Hid (∀ (V : World), Below w.heap.size w V → TxR n D w (.returned (.tuple #[.string ⟨(textP n D (begs n D n 0)).toArray⟩, .int .i64 0])) V) := Lib.hid fun V hV => by
    refine ⟨?_, hV⟩
    unfold txS
    rw [if_pos h0, h0]
  generalize TxR n D w = QQ at HTx ⊢
  go_enter Tryd.func15, Tryd.ntmps15
  go_wp2_with fail
  refine HP.out.mono ?_
  rintro e w2 ⟨hb2, hr⟩
  rw [if_pos h0] at hr
  obtain ⟨x, cx, rfl, hx⟩ := hr
  have HB2 := Lib.hid hb2
  have HX := Lib.hid hx
  have HRd : Hid (∀ y ∈ begs n D n 0, rdE n D y = 0) := Lib.hid (begs_rd n D n 0)
  have hLl : (begs n D n 0).length ≤ n := by have := begs_len n D n 0; omega
  clear hx hb2 h0
  generalize begs n D n 0 = L at HTx HX HRd hLl ⊢
  go_wp2_with fail
  go_loopw [7, 8] (fun out i wr => ∃ (j : Nat), j ≤ L.length ∧ i = .int .i64 j ∧ Hid (wr.ownsRow w2.heap.size 5 1 out (textP n D (L.take j)).length (Lib.byteCells (textP n D (L.take j))) ∧ Below w2.heap.size w2 wr)) (fun _ i _ => L.length - (intOf i).toNat)
  case atStart => exact ⟨0, by omega, rfl, Lib.hid ⟨World.ownsRow_nil _ _ _ _, Below.refl _ _⟩⟩
  case round =>
    obtain ⟨j, hj, rfl, HR⟩ := hrel
    by_cases hlt : j < L.length
    · have hlt' : (j : Int) < (L.length : Int) := by omega
      obtain ⟨k, hat⟩ : ∃ k, L[j]? = some k := ⟨L[j], List.getElem?_eq_getElem hlt⟩
      have hrd := HRd.out k (List.mem_of_getElem? hat)
      have hcode := begs_code hrd
      have hbd := op_bd HC.out.byt hrd
      have hkn : k < n := by
        have h := hrd
        unfold rdE at h
        split at h
        · cases h
        · split at h
          · cases h
          · have := szK_bd (kindO (D k)); omega
      obtain ⟨bx, ox, hxa, hxb, hxc⟩ := HX.out.at (by simp; omega)
      have xj : wr.cell? ⟨bx, ox + j, none⟩ = some (.int .i64 (k : Nat)) := by
        rw [HR.out.2.cell (p := ⟨bx, ox + j, none⟩) hxb, hxc j (by simp; exact hlt), List.getD_eq_getElem?_getD, List.getElem?_map, hat]
        rfl
      subst hxa
      have HRc : Hid (Calls Tryd.prog 10 #[.slice a n c, .int .i64 k] wr fun e w' => e = .returned (.tuple #[.agg #[.int .i64 (D k : Nat), .int .i64 (opA D k), .int .i64 (opB D k), .int .i64 (szK (kindO (D k)) : Nat)], .int .i64 0]) ∧ Below wr.heap.size wr w') := Lib.hid (by
        have h := rread_c a n c D k wr (HC.out.kept (Kept.of (HB2.out.trans (HR.out.2.mono HB2.out.size)))) hkn
        rw [show rdC n D k = ret4 (D k : Nat) (opA D k) (opB D k) (szK (kindO (D k)) : Nat) from if_pos hrd, hrd] at h
        exact h)
      have HLn : Hid (∀ V, Calls Tryd.prog 39 #[.agg #[.int .i64 (D k : Nat), .int .i64 (opA D k), .int .i64 (opB D k), .int .i64 (szK (kindO (D k)) : Nat)]] V fun e w' => e = .returned (.string ⟨(lineP (D k) (opA D k) (opB D k)).toArray⟩) ∧ Below V.heap.size V w') := Lib.hid fun V => line_c (D k) hcode (opA D k) (opB D k) _ (by omega) (by omega) V
      have HT1 : Hid (textP n D (L.take (j + 1)) = textP n D (L.take j) ++ lineP (D k) (opA D k) (opB D k) ++ [10]) := Lib.hid (by
        rw [List.take_add_one, hat]
        unfold textP
        rw [List.flatMap_append]
        simp [List.append_assoc])
      have hlen1 : (textP n D (L.take j)).length ≤ 71 * j := by
        have h := textQ_len HC.out.byt (L.take j)
        rw [textQ_P n D _ (fun y hy => HRd.out y (List.mem_of_mem_take hy))] at h
        have : (L.take j).length = j := by simp; omega
        omega
      have hll := line_len (D k) (opA D k) (opB D k) (by omega) (by omega)
      clear hxb hxc hat hrd hbd hcode
      generalize textP n D (L.take j) = T0 at *
      obtain ⟨T1, hT1⟩ : ∃ q, textP n D (L.take (j + 1)) = q := ⟨_, rfl⟩
      rw [hT1] at HT1
      have HT1e := Lib.hid hT1
      clear hT1
      generalize lineP (D k) (opA D k) (opB D k) = LN at *
      generalize opA D k = oa at *
      generalize opB D k = ob at *
      generalize szK (kindO (D k)) = sz at *
      generalize D k = dk at *
      go_upto_region 9 with (first | (go_at_call 10; refine HRc.out.mono ?_; rintro e w3 ⟨rfl, hb3⟩))
      have HO4 : Hid ((w3.alloc (.cells #[.int .i64 (dk : Nat), .int .i64 oa, .int .i64 ob, .int .i64 (sz : Nat)] 29)).ownsRow w2.heap.size 5 1 u7 T0.length (Lib.byteCells T0) ∧ Below w2.heap.size w2 (w3.alloc (.cells #[.int .i64 (dk : Nat), .int .i64 oa, .int .i64 ob, .int .i64 (sz : Nat)] 29)) ∧ Bx (w3.alloc (.cells #[.int .i64 (dk : Nat), .int .i64 oa, .int .i64 ob, .int .i64 (sz : Nat)] 29)) w3.heap.size #[.int .i64 (dk : Nat), .int .i64 oa, .int .i64 ob, .int .i64 (sz : Nat)] 29) := Lib.hid (by
        have h3 := HR.out.2.trans (hb3.mono HR.out.2.size)
        exact ⟨own_alloc2 (own_below2 HR.out.1 hb3) _, h3.alloc h3.size _, Bx.new _ _ _⟩)
      generalize w3.alloc (.cells #[.int .i64 (dk : Nat), .int .i64 oa, .int .i64 ob, .int .i64 (sz : Nat)] 29) = W4 at HO4 ⊢
      generalize w3.heap.size = bo at HO4 ⊢
      clear hb3 HR HRc
      have q0 : W4.cell? ⟨bo, 0, none⟩ = some (.int .i64 (dk : Nat)) := HO4.out.2.2.cell 0
      have q1 : W4.cell? ⟨bo, 1, none⟩ = some (.int .i64 oa) := HO4.out.2.2.cell 1
      have q2 : W4.cell? ⟨bo, 2, none⟩ = some (.int .i64 ob) := HO4.out.2.2.cell 2
      have q3 : W4.cell? ⟨bo, 3, none⟩ = some (.int .i64 (sz : Nat)) := HO4.out.2.2.cell 3
      go_wp2_with fail
      refine (HLn.out _).mono ?_
      rintro e w5 ⟨rfl, hb5⟩
      have HO5 : Hid (w5.ownsRow w2.heap.size 5 1 u7 T0.length (Lib.byteCells T0) ∧ Below w2.heap.size w2 w5) := Lib.hid ⟨own_below2 HO4.out.1 hb5, HO4.out.2.1.trans (hb5.mono HO4.out.2.1.size)⟩
      clear hb5 HO4 q0 q1 q2 q3
      have hss := str_size LN
      have h25 := HO5.out.2.size
      go_wp2_with (at_builtin; refine Lib.wpList_append_own_string _ rfl _ _ 22 9 rfl w2.heap.size 5 i0 Tryd.underlying22 Tryd.underlying9 hi hz0 hz1 hz2 _ _ _ rfl HO5.out.1 ⟨LN.toArray⟩ rfl ?c3 ?c4 ?c5 ?_)
      case c3 => unfold maxLen; omega
      case c4 => omega
      case c5 => omega
      intro v6 w6 hown6 hg6 _
      have HO6 : Hid (w6.ownsRow w2.heap.size 5 1 v6 (T0 ++ LN).length (Lib.byteCells (T0 ++ LN)) ∧ Below w2.heap.size w2 w6) := Lib.hid ⟨by
        rw [List.length_append]
        simpa [Lib.byteCells, Lib.strCells, hss] using hown6, HO5.out.2.grown hg6 h25 (fun k hk => (HO5.out.1.lt k hk).1)⟩
      clear hown6 hg6 HO5 h25
      obtain ⟨a6, c6, rfl⟩ := own_slice HO6.out.1
      have h26 := HO6.out.2.size
      have hl6 : (T0 ++ LN).length = T0.length + LN.length := List.length_append
      go_wp2_with (at_builtin; refine wpList_append_own _ rfl _ _ 22 rfl w2.heap.size 5 i0 (.int .u8 0) 1 1 Tryd.underlying22 hi hz0 hz1 hz2 rfl (by decide) _ _ _ rfl (HO6.out.1.alloc _) ⟨w6.heap.size, 0, none⟩ 1 1 [.int .u8 10] rfl rfl ?c1 ?c2 ?c3 ?c4 ?c5 ?_)
      case c1 =>
        intro j u hj
        match j, hj with
        | 0, hj => simp at hj; subst hj; simp [Addr.add]
      case c2 => intro u hu; simp at hu; subst hu; rfl
      case c3 => unfold maxLen; omega
      case c4 => omega
      case c5 => simp; omega
      intro v7 w7 hown7 hg7 _
      have HO7 : Hid (w7.ownsRow w2.heap.size 5 1 v7 T1.length (Lib.byteCells T1) ∧ Below w2.heap.size w2 w7) := Lib.hid ⟨by
        rw [HT1.out, List.length_append]
        simpa [Lib.byteCells] using hown7, (HO6.out.2.alloc h26 _).grown hg7 (by simp; omega) (fun k hk => (HO6.out.1.lt k (by rw [hl6]; exact hk)).1)⟩
      clear hown7 hg7 HO6 h26
      obtain ⟨a7, c7, rfl⟩ := own_slice HO7.out.1
      go_wp2_with fail
      go_roundw
      case rel => exact ⟨j + 1, by omega, by go_num, by rw [HT1e.out]; exact HO7⟩
      case measure => simp [intOf]; omega
    · have he : L.take j = L := List.take_of_length_le (by omega)
      have cv := conv_own HR.out.1
      rw [he] at cv
      have HF := Lib.hid (HTx.out wr (HB2.out.trans (HR.out.2.mono HB2.out.size)))
      have hlt' : ¬ (j : Int) < (L.length : Int) := by omega
      clear HTx
      generalize (⟨(textP n D L).toArray⟩ : ByteArray) = SS at cv HF
      go_wp2
      exact HF.out
end Go.Proofs.YtgdlcnngplfjnaaDoor.Co
