import Derived.Test.YtgdlcnngplfjnaaDoorKn
import Derived.Test.YtgdlcnngplfjnaaDoorCb
import Derived.Test.YtgdlcnngplfjnaaDoorCf
import Derived.BigGuardPart
import Derived.LoopIn
import Derived.LoopNIn
import Derived.OwnWalkIn
import Derived.RangeFuncBound
import Derived.RangeFuncBox
import Derived.RangeFuncCalls
import Derived.RangeFuncLeaves
import Derived.RangeFuncNested
import Derived.Shelf.RegionOpen
import Derived.TacticsInMore
import Derived.Laws.BitsLemmas
import Derived.IntWalk
import Derived.Laws.BitsAllLaws
import Derived.Deep.DrawnRows
import Derived.WalkKit
import Derived.ProofKit
import Derived.OpenShut
import Derived.Deep.QuietTactic
import Derived.BigQuiet
import Derived.Outline
import Derived.WalkSmall
import Derived.WalkLawsBesides
import Derived.WalkSpells
import Derived.BigGuardPart
import Derived.RegionTactic
import Derived.Deep.RegionHeld3
import Derived.Lib.Hide
import Derived.Deep.MidRow
import Derived.Below
import Derived.Deep.RegionWith
import Derived.Deep.OwnRows
import Derived.Deep.AppendLies
import Derived.Deep.RegionLaw
import Derived.Deep.CutBlock
import Derived.Deep.DeepCutAuto
import Derived.Laws.BytesArg
import Derived.Shelf.Bytes.SlSmallAll
namespace Go.Proofs.YtgdlcnngplfjnaaDoor.Co
open Go.Shelf Go.ChangeShapes Go.WideShapes Go.ChangeAt Go.RowKit Go.Proofs.YtgdlcnngplfjnaaDoor.Vf
set_option linter.unusedVariables false
/-! ### The law CodePlaces (7) -/
theorem conv_bys (w : World) (a : Option Addr) (c : Nat) (l : List Int) (h : Bys w a l) : (convert 22 9 (.slice a l.length c)).run Tryd.prog w = .ok (.string (strOfNums l)) w := by
  by_cases h0 : l = []
  · subst h0
    exact run_convert_bytes_zero w 22 5 Tryd.underlying22 Tryd.underlying5 a c 9 Tryd.underlying9
  · have hl : 0 < l.length := List.length_pos_iff.2 h0
    obtain ⟨b, o, rfl, hb, hc⟩ := h.at hl
    exact run_convert_bytes_arg w 22 5 Tryd.underlying22 Tryd.underlying5 b o l.length c l rfl hc 9 Tryd.underlying9
/-- The bytes of one that was read are these. -/
theorem wr_of_rd {n : Nat} {D : Nat → Nat} (hD : ∀ i, i < n → D i < 256) {k : Nat} (h : rdE n D k = 0) : wrE (D k : Nat) (opA D k) (opB D k) = 0 ∧ wrL (D k : Nat) (opA D k) (opB D k) = (List.range (szK (kindO (D k)))).map fun i => ((D (k + i) : Nat) : Int) := by
  have hc : D k < 41 := by
    unfold rdE at h
    split at h
    · cases h
    · omega
  have hle : k + szK (kindO (D k)) ≤ n := by
    unfold rdE at h
    split at h
    · cases h
    · split at h
      · cases h
      · omega
  have hbd := op_bd hD h
  unfold wrE wrL opA opB
  rw [if_neg (by omega)]
  rcases kindO_cs ((D k : Nat) : Int) with hk | hk | hk | hk | hk
  · rw [hk]
    exact ⟨rfl, rfl⟩
  · rw [hk] at hle ⊢
    have h1 := hD (k + 1) (by have : szK 1 = 2 := rfl; omega)
    refine ⟨by simp; omega, ?_⟩
    simp [szK, List.range_succ]
    omega
  · rw [hk] at hle ⊢
    have h1 := hD (k + 1) (by have : szK 2 = 2 := rfl; omega)
    have := wrap8 ((D (k + 1) : Nat) : Int)
    refine ⟨by simp; omega, ?_⟩
    simp [szK, List.range_succ]
    omega
  · rw [hk] at hle ⊢
    have h1 := hD (k + 1) (by have : szK 3 = 3 := rfl; omega)
    have h2 := hD (k + 2) (by have : szK 3 = 3 := rfl; omega)
    have := wrap16 ((D (k + 1) : Nat) + 256 * (D (k + 2) : Nat) : Int)
    refine ⟨by simp; omega, ?_⟩
    simp [szK, List.range_succ]
    omega
  · rw [hk] at hle ⊢
    have h1 := hD (k + 1) (by have : szK 4 = 3 := rfl; omega)
    have h2 := hD (k + 2) (by have : szK 4 = 3 := rfl; omega)
    refine ⟨by simp; omega, ?_⟩
    simp [szK, List.range_succ]
/-- The next place, and what lies there. -/
theorem Pfx.head {n : Nat} {D : Nat → Nat} {pre : List Nat} {k : Nat} (h : Pfx n D pre k) (hl : pre.length < (begs n D n 0).length) : k < n ∧ rdE n D k = 0 ∧ (begs n D n 0)[pre.length]? = some k := by
  obtain ⟨f, h1, h2, h3⟩ := h.p
  rw [h2, List.length_append] at hl
  rw [h2, List.getElem?_append_right (Nat.le_refl _), Nat.sub_self]
  cases f with
  | zero => unfold begs at hl; simp at hl
  | succ f =>
    unfold begs at hl ⊢
    by_cases hk : k < n
    · by_cases hr : rdE n D k = 0
      · rw [if_pos hk, if_pos hr]
        exact ⟨hk, hr, rfl⟩
      · rw [if_pos hk, if_neg hr] at hl
        simp at hl
    · rw [if_neg hk] at hl
      simp at hl
theorem Pfx.last {n : Nat} {D : Nat → Nat} {pre : List Nat} {k : Nat} (h : Pfx n D pre k) (hl : ¬ pre.length < (begs n D n 0).length) (h0 : (rdR n D).2 = 0) : n ≤ k := by
  obtain ⟨f, h1, h2, h3⟩ := h.p
  rcases Nat.lt_or_ge k n with hk | hk
  · exfalso
    cases f with
    | zero => omega
    | succ f =>
      rw [h2, List.length_append] at hl
      by_cases hr : rdE n D k = 0
      · unfold begs at hl
        simp [hk, hr] at hl
      · have he : endP n D (f + 1) k = k := by
          unfold endP
          rw [if_pos hk, if_neg hr]
        rw [he] at h3
        unfold rdR at h0
        rw [h3, if_pos hk] at h0
        exact hr h0
  · exact hk
set_option maxRecDepth 100000 in
set_option maxHeartbeats 4000000 in
theorem places_law (a : Option Addr) (n c : Nat) (D : Nat → Nat) (w : World) (hT : Tbs w) (hI : n ≤ 4000 → CodeIn w a n c D) : Calls Tryd.prog 7 #[.slice a n c] w fun e w' => e = .returned (.bool true) ∧ Below w.heap.size w w' := by
  have HK := Lib.hid (known_c w hT)
  have HT := Lib.hid hT
  clear hT
  by_cases hn : n ≤ 4000
  case neg =>
    have d0 : decide ((4000 : Int) < (n : Int)) = true := decide_eq_true (by omega)
    clear hI
    go_enter Tryd.func7, Tryd.ntmps7
    go_wp2_with (first | (go_at_call 8; refine HK.out.mono ?_; rintro e w1 ⟨rfl, hb1⟩))
    go_ret
    exact ⟨rfl, hb1⟩
  have hI := hI hn
  have d0 : decide ((4000 : Int) < (n : Int)) = false := decide_eq_false (by omega)
  have HP : Hid (∀ V, Below w.heap.size w V → Calls Tryd.prog 12 #[.slice a n c] V (PpP n D V)) := Lib.hid fun V hV => pplaces_c a n c D V (hI.kept (Kept.of hV))
  have HC := Lib.hid hI
  clear hI
  go_enter Tryd.func7, Tryd.ntmps7
  go_wp2_with (first | (go_at_call 8; refine HK.out.mono ?_; rintro e w1 ⟨rfl, hb1⟩))
  refine (HP.out _ hb1).mono ?_
  rintro e w2 ⟨hb2, hr⟩
  have HB2 : Hid (Below w.heap.size w w2) := Lib.hid (hb1.trans (hb2.mono hb1.size))
  by_cases h0 : (rdR n D).2 = 0
  case neg =>
    rw [if_neg h0] at hr
    subst hr
    have hd : ((rdR n D).2 != 0) = true := by simpa using h0
    generalize (rdR n D).2 = er at hd
    clear hb1 hb2 h0
    go_wp2
    go_ret
    exact ⟨rfl, HB2.out⟩
  rw [if_pos h0] at hr
  obtain ⟨x, cx, rfl, hx⟩ := hr
  have HX := Lib.hid hx
  have HZ := Lib.hid h0
  obtain ⟨L, hL⟩ : ∃ q, q = begs n D n 0 := ⟨_, rfl⟩
  have HL := Lib.hid hL
  rw [← hL] at HX ⊢
  have hLl : L.length ≤ n := by rw [hL]; have := begs_len n D n 0; omega
  clear hx h0 hb1 hb2 hL
  go_wp2_with fail
  go_loopw [5, 6] (fun at_ i wr => ∃ (j k : Nat), j ≤ L.length ∧ i = .int .i64 j ∧ at_ = .int .i64 k ∧ k ≤ n ∧ Hid (Below w2.heap.size w2 wr ∧ Pfx n D (L.take j) k)) (fun _ i _ => L.length - (intOf i).toNat)
  case atStart => exact ⟨0, 0, by omega, rfl, rfl, by omega, Lib.hid ⟨Below.refl _ _, Pfx.zero n D⟩⟩
  case round =>
    obtain ⟨j, k, hj, rfl, rfl, hk, HR⟩ := hrel
    have hlen : (L.take j).length = j := by simp; omega
    by_cases hlt : j < L.length
    · obtain ⟨hkn, hrd, hat⟩ := Pfx.head HR.out.2 (by rw [hlen, ← HL.out]; exact hlt)
      rw [hlen, ← HL.out] at hat
      have HRd := Lib.hid hrd
      have hat0 := Lib.hid hat
      have hlt' : (j : Int) < (L.length : Int) := by omega
      obtain ⟨bx, ox, hxa, hxb, hxc⟩ := HX.out.at (by simp; omega)
      have xj : wr.cell? ⟨bx, ox + j, none⟩ = some (.int .i64 (k : Nat)) := by
        rw [HR.out.1.cell (p := ⟨bx, ox + j, none⟩) hxb, hxc j (by simp; exact hlt), List.getD_eq_getElem?_getD, List.getElem?_map, hat]
        rfl
      subst hxa
      have HRc : Hid (Calls Tryd.prog 9 #[.slice a n c, .int .i64 k] wr fun e w' => e = .returned (.tuple #[.agg #[.int .i64 (D k : Nat), .int .i64 (opA D k), .int .i64 (opB D k), .int .i64 (szK (kindO (D k)) : Nat)], .int .i64 0]) ∧ Below wr.heap.size wr w') := Lib.hid (by
        have h := cread_c a n c D k wr (HC.out.kept (Kept.of (HB2.out.trans (HR.out.1.mono HB2.out.size)))) hkn
        rw [show rdC n D k = ret4 (D k : Nat) (opA D k) (opB D k) (szK (kindO (D k)) : Nat) from if_pos hrd, hrd] at h
        exact h)
      have hxr : bx < wr.heap.size := by have := HR.out.1.size; omega
      clear hxb hxc hat hrd
      go_upto_region 13 with (first | (go_at_call 9; refine HRc.out.mono ?_; rintro e w3 ⟨rfl, hb3⟩))
      have hle : k + szK (kindO (D k)) ≤ n := by
        have h := HRd.out
        unfold rdE at h
        split at h
        · cases h
        · split at h
          · cases h
          · omega
      have hsz := szK_bd (kindO (D k))
      obtain ⟨hwe, hwl⟩ := wr_of_rd HC.out.byt HRd.out
      have HW4 : Hid (Bx (w3.alloc (.cells #[.int .i64 (D k : Nat), .int .i64 (opA D k), .int .i64 (opB D k), .int .i64 (szK (kindO (D k)) : Nat)] 25)) w3.heap.size #[.int .i64 (D k : Nat), .int .i64 (opA D k), .int .i64 (opB D k), .int .i64 (szK (kindO (D k)) : Nat)] 25 ∧ Below wr.heap.size wr (w3.alloc (.cells #[.int .i64 (D k : Nat), .int .i64 (opA D k), .int .i64 (opB D k), .int .i64 (szK (kindO (D k)) : Nat)] 25))) := Lib.hid ⟨Bx.new _ _ _, hb3.alloc hb3.size _⟩
      have HST : Hid (Pfx n D (L.take (j + 1)) (k + szK (kindO (D k)))) := Lib.hid (by
        have h := HR.out.2.step hkn HRd.out
        have hat2 := hat0.out
        rw [List.take_add_one, hat2]
        exact h)
      generalize w3.alloc (.cells #[.int .i64 (D k : Nat), .int .i64 (opA D k), .int .i64 (opB D k), .int .i64 (szK (kindO (D k)) : Nat)] 25) = W4 at HW4 ⊢
      generalize w3.heap.size = ob at HW4 ⊢
      clear hb3
      have HWr : Hid (Calls Tryd.prog 17 #[.agg #[.int .i64 (D k : Nat), .int .i64 (opA D k), .int .i64 (opB D k), .int .i64 (szK (kindO (D k)) : Nat)]] W4 (WrR (D k : Nat) (opA D k) (opB D k) W4)) := Lib.hid (write_c _ _ _ _ W4)
      have HRc2 := HRc
      clear HRc HRc2
      generalize opA D k = oa at *
      generalize opB D k = ob2 at *
      generalize szK (kindO (D k)) = sz at *
      generalize D k = dk at *
      have xj4 : W4.cell? ⟨bx, ox + j, none⟩ = some (.int .i64 (k : Nat)) := (HW4.out.2.cell (p := ⟨bx, ox + j, none⟩) hxr).trans xj
      have q0 : W4.cell? ⟨ob, 0, none⟩ = some (.int .i64 (dk : Nat)) := HW4.out.1.cell 0
      have q1 : W4.cell? ⟨ob, 1, none⟩ = some (.int .i64 oa) := HW4.out.1.cell 1
      have q2 : W4.cell? ⟨ob, 2, none⟩ = some (.int .i64 ob2) := HW4.out.1.cell 2
      have q3 : W4.cell? ⟨ob, 3, none⟩ = some (.int .i64 (sz : Nat)) := HW4.out.1.cell 3
      have ds : decide ((sz : Int) < 1) = false := decide_eq_false (by omega)
      go_wp2_with fail
      refine HWr.out.mono ?_
      intro e w5 hw
      unfold WrR at hw
      rw [if_pos hwe] at hw
      obtain ⟨x2, cx2, rfl, hby, hcp, hnew, hb5⟩ := hw
      obtain ⟨l2, hl2⟩ : ∃ q, wrL (dk : Nat) oa ob2 = q := ⟨_, rfl⟩
      rw [hl2] at hby hcp hwl ⊢
      have hl2n : l2.length = sz := by rw [hwl]; simp
      obtain ⟨cb, co, hca, hcb, hcc⟩ := HC.out.row.resolve_left (by omega)
      have HB5 : Hid (Below w.heap.size w w5) := Lib.hid (by
        have h1 := HB2.out.trans (HR.out.1.mono HB2.out.size)
        exact (h1.trans (HW4.out.2.mono h1.size)).trans (hb5.mono (h1.trans (HW4.out.2.mono h1.size)).size))
      have HBy2 : Hid (∀ m, Bys (w5.drewN m) (some ⟨cb, co + k, none⟩) l2) := Lib.hid fun m => .inr ⟨cb, co + k, rfl, by show cb < w5.heap.size; have := HB5.out.size; omega, fun i hi => by
        have h1 : (w5.drewN m).cell? ⟨cb, co + k + i, none⟩ = w5.cell? ⟨cb, co + (k + i), none⟩ := by rw [Nat.add_assoc]; rfl
        rw [h1, HB5.out.cell (p := ⟨cb, co + (k + i), none⟩) hcb, hcc (k + i) (by omega)]
        have hg : l2.getD i 0 = ((D (k + i) : Nat) : Int) := by
          rw [hwl, List.getD_eq_getElem?_getD, List.getElem?_map, List.getElem?_range (by omega)]
          rfl
        show some (Value.int .u8 ((D (k + i) : Nat) : Int)) = some (Value.int .u8 (l2.getD i 0))
        rw [hg]⟩
      have cv1 : ∀ m, (convert 22 9 (.slice x2 l2.length cx2)).run Tryd.prog (w5.drewN m) = .ok (.string (strOfNums l2)) (w5.drewN m) := fun m => conv_bys (w5.drewN m) x2 cx2 l2 (hby.kept ⟨Nat.le_refl _, fun _ _ _ => rfl⟩)
      have cv2 : ∀ m, (convert 22 9 (.slice (some ⟨cb, co + k, none⟩) l2.length (c - k))).run Tryd.prog (w5.drewN m) = .ok (.string (strOfNums l2)) (w5.drewN m) := fun m => conv_bys (w5.drewN m) _ (c - k) l2 (HBy2.out m)
      have hx5 : Bx w5 ob #[.int .i64 (dk : Nat), .int .i64 oa, .int .i64 ob2, .int .i64 (sz : Nat)] 25 := HW4.out.1.below hb5
      have r3 : w5.cell? ⟨ob, 3, none⟩ = some (.int .i64 (sz : Nat)) := hx5.cell 3
      subst hca
      rw [hl2n] at cv1 cv2 ⊢
      have hcap := HC.out.cap
      have hks : IntKind.i64.wrap ((k : Int) + (sz : Nat)) = ((k + sz : Nat) : Int) := by rw [IntKind.wrap_i64]; omega
      clear hby hnew hcc hwl hl2 q0 q1 q2 q3 xj xj4 hwe hx5 HWr
      have hdz : strOfNums l2 = strOfNums l2 := rfl
      have ck : c ≠ k := by omega
      generalize strOfNums l2 = SS at cv1 cv2 hdz
      go_upto_region 16 with fail
      go_quiet (fail)
      go_wp2_with fail
      have HBn : Hid (Below w2.heap.size w2 (w5.drewN nq)) := Lib.hid (by
        have h1 := (HR.out.1.trans (HW4.out.2.mono HR.out.1.size))
        exact below_drewN (h1.trans (hb5.mono h1.size)) nq)
      go_roundw
      case rel => exact ⟨j + 1, k + sz, by omega, by go_num, by go_num, by omega, Lib.hid ⟨HBn.out, HST.out⟩⟩
      case measure => simp [intOf]; omega
    · have hkn := Pfx.last HR.out.2 (by rw [hlen, ← HL.out]; exact hlt) HZ.out
      have hlt' : ¬ (j : Int) < (L.length : Int) := by omega
      have hkn2 : k = n := by omega
      subst hkn2
      have HB3 := Lib.hid (HB2.out.trans (HR.out.1.mono HB2.out.size))
      go_wp2
      go_ret
      exact ⟨rfl, HB3.out⟩
end Go.Proofs.YtgdlcnngplfjnaaDoor.Co
