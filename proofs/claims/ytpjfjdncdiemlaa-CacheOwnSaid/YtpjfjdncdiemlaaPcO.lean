import Derived.Test.YtpjfjdncdiemlaaRows
import Derived.WalkKit
import Derived.ProofKit
import Derived.OpenShut
import Derived.Deep.QuietTactic
import Derived.BigQuiet
import Derived.Outline
import Derived.WalkSmall
import Derived.WalkLawsBesides
import Derived.WalkSpells
import Derived.BigGuardPart
import Derived.RegionTactic
import Derived.Deep.RegionHeld3
import Derived.Lib.Hide
import Derived.Deep.OwnRows
import Derived.Maps.AppendAt
import Derived.Deep.AppendLies
import Derived.Below
import Derived.Test.YtpjfjdncdiemlaaPcK
import Derived.Test.YtpjfjdncdiemlaaPcR
import Derived.Test.YtpjfjdncdiemlaaPcG
import Derived.Test.YtpjfjdncdiemlaaPcP
import Derived.Deep.RegionLaw
import Derived.Deep.RegionWith
namespace Go.Proofs.Ytpjfjdncdiemlaa
open Go.ChangeShapes Go.WideShapes Go.ChangeAt Go.RowKit
set_option linter.unusedVariables false
/-- n words at g, whatever they are, that may be written. -/
def SomeW (w : World) (g n : Nat) : Prop := g < w.heap.size ∧ (∀ p, p < n → ∃ z : Int, w.cell? ⟨g, p, none⟩ = some (.int .u32 z)) ∧ ∀ p, w.frozen? ⟨g, p, none⟩ = false
theorem SomeW.of {w : World} {g n : Nat} {F : Nat → Nat} (h : g < w.heap.size) (hw : WdAt w g n F) (hf : ∀ p, w.frozen? ⟨g, p, none⟩ = false) : SomeW w g n := ⟨h, fun p hp => ⟨_, hw p hp⟩, hf⟩
theorem SomeW.set {w : World} {g n j : Nat} (h : SomeW w g n) (z : Int) (hj : j < n) : SomeW (w.setCell ⟨g, j, none⟩ (.int .u32 z)) g n := by
  obtain ⟨h1, h2, h3⟩ := h
  refine ⟨by simpa [World.setCell] using h1, fun p hp => ?_, fun p => (World.frozen?_setCell _ _ _ _).trans (h3 p)⟩
  by_cases e : p = j
  · subst e
    obtain ⟨z0, hz0⟩ := h2 p hp
    exact ⟨z, World.cell?_setCell_same _ _ _ hz0⟩
  · obtain ⟨z0, hz0⟩ := h2 p hp
    exact ⟨z0, (sf _ _ _ _ (fun he => e (by injection he with _ e2; exact e2.symm))).trans hz0⟩
theorem SomeW.below {w w' : World} {g n : Nat} (h : SomeW w g n) (hb : Below w.heap.size w w') : SomeW w' g n :=
  ⟨Nat.lt_of_lt_of_le h.1 hb.size, fun p hp => by obtain ⟨z, hz⟩ := h.2.1 p hp; exact ⟨z, (hb.cell (p := ⟨g, p, none⟩) h.1).trans hz⟩, fun p => (hb.frozen (p := ⟨g, p, none⟩) h.1).trans (h.2.2 p)⟩
theorem SomeW.grown {w w' : World} {g n b : Nat} (h : SomeW w g n) (hg : w.grownBy w' (some b)) (hne : g ≠ b) : SomeW w' g n :=
  ⟨Nat.lt_of_lt_of_le h.1 hg.size, fun p hp => by obtain ⟨z, hz⟩ := h.2.1 p hp; exact ⟨z, (hg.cell_far ⟨g, p, none⟩ h.1 (fun e => hne (by injection e))).trans hz⟩, fun p => (hg.frozen_far ⟨g, p, none⟩ h.1 (fun e => hne (by injection e))).trans (h.2.2 p)⟩
theorem set_grown (w : World) (g j : Nat) (u : Value) : w.grownBy (w.setCell ⟨g, j, none⟩ u) (some g) :=
  ⟨rfl, rfl, rfl, by simp [World.setCell], fun k hk hne => Below.heap_setCell _ _ _ _ (fun e => hne (by rw [e]))⟩
theorem WdAt.grown {w w' : World} {g n b : Nat} {F : Nat → Nat} (h : WdAt w g n F) (hl : g < w.heap.size) (hg : w.grownBy w' (some b)) (hne : g ≠ b) : WdAt w' g n F := fun p hp => (hg.cell_far ⟨g, p, none⟩ hl (fun e => hne (by injection e))).trans (h p hp)
theorem WdAt.below {w w' : World} {g n : Nat} {F : Nat → Nat} (h : WdAt w g n F) (hl : g < w.heap.size) (hb : Below w.heap.size w w') : WdAt w' g n F := fun p hp => (hb.cell (p := ⟨g, p, none⟩) hl).trans (h p hp)
def wdCellsAt (n : Nat) (F : Nat → Nat) : List Value := (List.range n).map fun p => .int .u32 (F p : Nat)
set_option maxRecDepth 100000 in
set_option maxHeartbeats 8000000 in
theorem own26_c (b0 off len cap len1 cap1 : Nat) (a1 : Option Addr) (F : Nat → Nat) (w : World) (h1 : 1 ≤ len) (h2 : len ≤ 1000) (h3 : len1 ≤ 1000) (hb : b0 < w.heap.size) (hc : ∀ j, j < len → w.cell? ⟨b0, off + j, none⟩ = some (.int .u32 (F j : Nat))) :
    Calls Try.prog 9 #[.slice (some ⟨b0, off, none⟩) len cap, .slice a1 len1 cap1] w fun e w' => e = .returned (.bool true) ∧ Below w.heap.size w w' := by
  obtain ⟨i0, hi, hz0, hz1, hz2⟩ := info_parts info57
  have HC := Lib.hid hc
  have HB := Lib.hid hb
  have d1 : decide ((1000 : Int) < (len : Int)) = false := decide_eq_false (by omega)
  have d2 : decide ((1000 : Int) < (len1 : Int)) = false := decide_eq_false (by omega)
  have d3 : ((len : Int) == 0) = false := by simp; omega
  have hro := roomOf_le len 4096 (by omega) (by omega) (by decide)
  obtain ⟨rm, hrm⟩ : ∃ rm, rm = (0 : Int) + roomOf len := ⟨_, rfl⟩
  have HRM := Lib.hid hrm
  have hro1 : (len : Int) ≤ roomOf len := hro.1
  have hr1 : (len : Int) ≤ rm := by omega
  have hr2 : rm ≤ 4096 := by omega
  clear hc hrm hro
  go_enter Try.func9, Try.ntmps9
  go_wp2_with (first | (go_at_call 23; refine (known26_c _).mono ?_; rintro e w1 ⟨rfl, hb1⟩; have HB1 := Lib.hid hb1; clear hb1) | (go_at_call 24; refine (cnew_c 64 4096 _ (by decide) (by decide) (by decide) (by decide)).mono ?_; rintro e w2 ⟨cb, rfl, hcb, hca, hb2⟩; have HB2 := Lib.hid (HB1.out.trans (hb2.mono HB1.out.size)); have HCA := Lib.hid hca; have hcw : w.heap.size ≤ cb := Nat.le_trans HB1.out.size hcb; clear hb2 hca HB1))
  refine (take_y cb 64 0 4096 0 5 len _ [] _ (by decide) (by decide) (by decide) (by decide) (by decide) (by omega) (by omega) HCA (Lib.hid (fun j hj => absurd hj (Nat.not_lt_zero _)))).mono ?_
  rintro e w3 ⟨rfl, hb3, v3, hca3⟩
  rw [← HRM.out] at hca3
  have HB3 := Lib.hid (HB2.out.trans (hb3.mono hcw))
  obtain ⟨pb, pcap, hpc⟩ := ca_pc hca3 (by decide) (m := 5) (a := 64) (wo := none) (wl := 0) (wc := 0) (st := 0) (f := 0) (r := roomOf len) ⟨rfl, rfl, rfl, rfl, rfl, rfl⟩
  have HP3 := Lib.hid hpc
  clear hca3 hb3 HCA HB2 hpc
  have hown : (w3.alloc (.cells #[] 57)).ownsRow w3.heap.size 57 1 (.slice (some ⟨w3.heap.size, 0, none⟩) 0 0) 0 [] := World.ownsRow_made w3 #[] 0 (Nat.le_refl _) (by unfold maxLen; omega) rfl
  have HO := Lib.hid hown
  have HL : Hid ((wdCells len F).length = len * 1) := Lib.hid (by simp [wdCells])
  have HN : Hid (∀ j u, (wdCells len F)[j]? = some u → (w3.alloc (.cells #[] 57)).cell? ((⟨b0, off, none⟩ : Addr).add j) = some u) := Lib.hid (by
    intro j u hu
    have hj := (List.getElem?_eq_some_iff.1 hu).1
    have hj1 : j < len := by simpa [wdCells] using hj
    unfold wdCells at hu
    rw [List.getElem?_map, List.getElem?_range hj1] at hu
    rw [Addr.add_mid, World.cell?_alloc_past _ _ _ (by have := HB3.out.size; have := HB.out; show b0 < _; omega)]
    exact ((HB3.out.cell (p := ⟨b0, off + j, none⟩) HB.out).trans (HC.out j hj1)).trans hu)
  have hone : Hid (∀ u ∈ wdCells len F, u.oneCell' = true) := Lib.hid (fun u hu => by obtain ⟨p, _, rfl⟩ := List.mem_map.1 hu; rfl)
  clear hown
  go_wp2_with (at_builtin; refine wpList_append_lies _ rfl _ _ 55 rfl w3.heap.size 57 i0 _ 1 4 Try.underlying55 hi hz0 hz1 hz2 rfl (by decide) _ 0 [] rfl HO.out ⟨b0, off, none⟩ len cap (wdCells len F) rfl HL.out HN.out hone.out (by omega) (by unfold maxLen; omega) (by omega) (by simp) (w3.heap.size + 1) (by simp) ?_)
  intro g cp w4 hown1 hgrow hat hlt
  obtain ⟨r1, r2, r3, r4⟩ := rows_of hown1
  have hb34 : Below w3.heap.size w3 w4 := ((Below.refl _ _).alloc (Nat.le_refl _) _).trans ⟨hgrow.os, hgrow.tape, hgrow.output, hgrow.size, fun x hx => hgrow.block x (by simp; omega) (by simp [Value.ownBlock]; omega)⟩
  have HB4 := Lib.hid (HB3.out.trans (hb34.mono HB3.out.size))
  have HW4 : Hid (WdAt w4 g len F) := Lib.hid (fun p hp => r3 p _ (by unfold wdCells; rw [List.getElem?_map, List.getElem?_range hp]; rfl))
  have HF4 := Lib.hid r4
  have HP4 := Lib.hid (HP3.out.below hb34)
  have hgpb : g ≠ pb := by have := HP3.out.2.1; omega
  have hgcb : g ≠ cb := by have := HP3.out.2.1; have := HP3.out.1; omega
  have hgN : w.heap.size ≤ g := by have := HB3.out.size; omega
  have hpbN : w.heap.size ≤ pb := by have := HP3.out.1; omega
  clear hown1 hgrow hat r1 r2 r3 r4 hb34 HO HL HN hone HP3 HB3
  go_wp2_with fail
  refine (lay_c cb pb 1 pcap 64 g len cp 4096 rm 5 64 0 (roomOf len) F _ (by decide) (by omega) (by omega) (by omega) (by omega) HW4 HP4).mono ?_
  rintro e w5 ⟨rfl, gb, wcap, hgb1, hgb2, hgb3, hw5, hp5, hgr⟩
  have HB5 := Lib.hid (HB4.out.grown hgr HB4.out.size (fun q hq => by injection hq with hq; omega))
  have HS5 := Lib.hid ((SomeW.of hlt HW4.out HF4.out).grown hgr hgpb)
  have HP5 := Lib.hid hp5
  have HW5 := Lib.hid hw5
  have hggb : gb ≠ g := by omega
  have hgbN : w.heap.size ≤ gb := by have := HB4.out.size; omega
  have hgbcb : gb ≠ cb := by have := HP4.out.2.1; have := HP4.out.1; omega
  clear HB4 HW4 HF4 HP4 hw5 hp5 hgr
  go_wp2
  go_loopw [11] (fun i wr => ∃ j : Nat, i = .int .i64 j ∧ j ≤ len ∧ gb < wr.heap.size ∧ Hid (SomeW wr g len) ∧ Hid (PcAt wr cb pb 1 pcap 64 4096 rm 5 64 (some ⟨gb, 0, none⟩) len wcap 1 0 (roomOf len)) ∧ Hid (WdAt wr gb len F) ∧ Hid (Below w.heap.size w wr)) (fun i _ => len - (intOf i).toNat)
  case atStart => exact ⟨0, rfl, by omega, hgb2, HS5, HP5, HW5, HB5⟩
  case round =>
    obtain ⟨j, rfl, hj, hgbr, HS, HP, HW, HBr⟩ := hrel
    by_cases hlt2 : j < len
    · obtain ⟨z, hz⟩ := HS.out.2.1 j hlt2
      have hfz := HS.out.2.2 j
      go_wp2
      go_roundw
      case rel => exact ⟨j + 1, by go_num, by omega, by simpa [World.setCell] using hgbr, Lib.hid (HS.out.set _ hlt2), Lib.hid (HP.out.grown (set_grown _ _ _ _) hgcb.symm hgpb.symm), Lib.hid (HW.out.grown hgbr (set_grown _ _ _ _) hggb), Lib.hid (HBr.out.setCell (p := ⟨g, _, none⟩) hgN _)⟩
      case measure => simp [intOf]; omega
    · obtain rfl : len = j := by omega
      clear HS5 HP5 HW5 HB5 HS
      go_wp2_with fail
      refine (piece_c cb pb 1 pcap 64 gb len wcap 4096 rm 5 64 1 0 (roomOf len) F _ (by decide) (by omega) (by omega) hgbr HW HP).mono ?_
      rintro e w6 ⟨g3, cp3, rfl, hg31, hg32, hw6, hf6, hb6⟩
      have HP6 := Lib.hid (HP.out.below hb6)
      have HW6 := Lib.hid (HW.out.below hgbr hb6)
      have HB6 := Lib.hid (HBr.out.trans (hb6.mono HBr.out.size))
      have HS6 := Lib.hid (SomeW.of hg32 hw6 hf6)
      have hgb6 : gb < w6.heap.size := Nat.lt_of_lt_of_le hgbr hb6.size
      have hg3gb : gb ≠ g3 := by omega
      have hg3N : w.heap.size ≤ g3 := by have := HBr.out.size; omega
      have hg3pb : pb ≠ g3 := by have := HP.out.2.1; omega
      have hg3cb : cb ≠ g3 := by have := HP.out.2.1; have := HP.out.1; omega
      clear HP HW HBr hb6 hw6 hf6 hgbr
      unfold pieceV
      go_wp2_with fail
      obtain ⟨qb, hqb⟩ : ∃ qb, qb = w6.heap.size := ⟨_, rfl⟩
      rw [← hqb]
      have hb7 : Below w6.heap.size w6 (w6.alloc (.cells #[.int .i64 5, .int .u64 64, .slice (some ⟨g3, 0, none⟩) len cp3, .int .i64 1] 59)) := (Below.refl _ _).alloc (Nat.le_refl _) _
      have HQ7 : Hid ((w6.alloc (.cells #[.int .i64 5, .int .u64 64, .slice (some ⟨g3, 0, none⟩) len cp3, .int .i64 1] 59)).cell? ⟨qb, 2, none⟩ = some (.slice (some ⟨g3, 0, none⟩) len cp3)) := Lib.hid (World.cell?_alloc_at _ _ _ _ hqb)
      have hq7 : qb < (w6.alloc (.cells #[.int .i64 5, .int .u64 64, .slice (some ⟨g3, 0, none⟩) len cp3, .int .i64 1] 59)).heap.size := by simp [hqb]
      have HP7 := Lib.hid (HP6.out.below hb7)
      have HW7 := Lib.hid (HW6.out.below hgb6 hb7)
      have HS7 := Lib.hid (HS6.out.below hb7)
      have HB7 := Lib.hid (HB6.out.trans (hb7.mono HB6.out.size))
      have hgb7 := Nat.lt_of_lt_of_le hgb6 hb7.size
      have hqg : qb ≠ g3 := by omega
      clear hb7 HP6 HW6 HS6 HB6 hgb6 hqb
      generalize w6.alloc (.cells #[.int .i64 5, .int .u64 64, .slice (some ⟨g3, 0, none⟩) len cp3, .int .i64 1] 59) = w7 at *
      go_loopw [14] (fun i wr => ∃ j : Nat, i = .int .i64 j ∧ j ≤ len ∧ gb < wr.heap.size ∧ qb < wr.heap.size ∧ Hid (wr.cell? ⟨qb, 2, none⟩ = some (.slice (some ⟨g3, 0, none⟩) len cp3)) ∧ Hid (SomeW wr g3 len) ∧ Hid (PcAt wr cb pb 1 pcap 64 4096 rm 5 64 (some ⟨gb, 0, none⟩) len wcap 1 0 (roomOf len)) ∧ Hid (WdAt wr gb len F) ∧ Hid (Below w.heap.size w wr)) (fun i _ => len - (intOf i).toNat)
      case atStart => exact ⟨0, rfl, by omega, hgb7, hq7, HQ7, HS7, HP7, HW7, HB7⟩
      case round =>
        obtain ⟨j, rfl, hj, hgbr, hqr, HQ, HS, HP, HW, HBr⟩ := hrel
        have hq := HQ.out
        by_cases hlt2 : j < len
        · obtain ⟨z, hz⟩ := HS.out.2.1 j hlt2
          have hfz := HS.out.2.2 j
          go_wp2
          go_roundw
          case rel => exact ⟨j + 1, by go_num, by omega, by simpa [World.setCell] using hgbr, by simpa [World.setCell] using hqr, Lib.hid ((sf _ _ _ _ (fun e => hqg (by injection e with e1 _; exact e1.symm))).trans HQ.out), Lib.hid (HS.out.set _ hlt2), Lib.hid (HP.out.grown (set_grown _ _ _ _) hg3cb hg3pb), Lib.hid (HW.out.grown hgbr (set_grown _ _ _ _) hg3gb), Lib.hid (HBr.out.setCell (p := ⟨g3, _, none⟩) hg3N _)⟩
          case measure => simp [intOf]; omega
        · obtain rfl : len = j := by omega
          clear HQ7 HS7 HP7 HW7 HB7 HS HQ
          go_wp2_with fail
          obtain ⟨yb, hyb⟩ : ∃ yb, yb = wr.heap.size := ⟨_, rfl⟩
          rw [← hyb]
          have hb8 : Below wr.heap.size wr (wr.alloc (.cells #[.bool true, .int .i64 0, .int .u64 0, .int .i64 0] 65)) := (Below.refl _ _).alloc (Nat.le_refl _) _
          have HP8 := Lib.hid (HP.out.below hb8)
          have HB8 := Lib.hid (HBr.out.trans (hb8.mono HBr.out.size))
          have HW8 := Lib.hid (HW.out.below hgbr hb8)
          have HY8 : Hid (YesAt (wr.alloc (.cells #[.bool true, .int .i64 0, .int .u64 0, .int .i64 0] 65)) yb true 0 0 0) := Lib.hid ⟨by simp [hyb], World.cell?_alloc_at _ _ _ _ hyb, World.cell?_alloc_at _ _ _ _ hyb, World.cell?_alloc_at _ _ _ _ hyb, World.cell?_alloc_at _ _ _ _ hyb, World.frozen?_alloc_at _ _ _ _ hyb, World.frozen?_alloc_at _ _ _ _ hyb, World.frozen?_alloc_at _ _ _ _ hyb⟩
          have hgb8 := Nat.lt_of_lt_of_le hgbr hb8.size
          have hNy : w.heap.size ≤ yb := by have := HBr.out.size; omega
          have n1 : cb ≠ yb := by have := HP.out.1; have := HP.out.2.1; omega
          have n2 : pb ≠ yb := by have := HP.out.2.1; omega
          have n3 : gb ≠ yb := by omega
          clear HP HBr HW hyb hb8 hgbr hqr hq
          generalize wr.alloc (.cells #[.bool true, .int .i64 0, .int .u64 0, .int .i64 0] 65) = w8 at *
          refine (tell_c w.heap.size cb pb 1 pcap 64 gb len wcap yb 4096 rm 5 64 0 (roomOf len) 0 0 0 F _ (by decide) (by omega) (by omega) (by decide) (by decide) hgb8 HW8 HP8 HY8 n1 n2 n3 hgb3 hcw hNy).mono ?_
          rintro e w9 ⟨rfl, hb9, hy9, hw9, hp9⟩
          have HP9 := Lib.hid hp9
          have HW9 := Lib.hid hw9
          have HB9 := Lib.hid (HB8.out.trans hb9)
          have hgb9 := Nat.lt_of_lt_of_le hgb8 hb9.size
          clear hb9 hy9 hw9 hp9 HP8 HW8 HB8 HY8 hgb8
          go_wp2_with fail
          refine (pieces_c cb pb pcap 64 gb len wcap 4096 rm 5 64 2 0 (roomOf len) F _ (by omega) (by omega) hgb9 HW9 HP9).mono ?_
          rintro e w10 ⟨lb, lcp, lg, lgcp, rfl, hop⟩
          have HOP := Lib.hid hop
          have hb10 := hop.2.2.2.2.2.2.2.2.2
          have HP10 := Lib.hid (HP9.out.below hb10)
          have HW10 := Lib.hid (HW9.out.below hgb9 hb10)
          have HB10 := Lib.hid (HB9.out.trans (hb10.mono HB9.out.size))
          have hgb10 := Nat.lt_of_lt_of_le hgb9 hb10.size
          clear hop hb10 HP9 HW9 HB9 hgb9
          go_wp2_with fail
          refine (lay_r cb pb 1 pcap 64 4096 rm 5 64 0 (roomOf len) _ _ _ _ _ _ _ (by decide) HP10).mono ?_
          rintro e w11 ⟨rfl, hb11⟩
          have HP11 := Lib.hid (HP10.out.below hb11)
          have HW11 := Lib.hid (HW10.out.below hgb10 hb11)
          have HB11 := Lib.hid (HB10.out.trans (hb11.mono HB10.out.size))
          have hgb11 := Nat.lt_of_lt_of_le hgb10 hb11.size
          have hs11 := hb11.size
          have HX11 := Lib.hid hb11
          clear hb11 HP10 HW10 HB10 hgb10
          go_wp2_with fail
          have hb12 : Below w11.heap.size w11 (w11.alloc (.cells #[.bool true, .int .i64 0, .int .u64 0, .int .i64 0] 65)) := (Below.refl _ _).alloc (Nat.le_refl _) _
          have HP12 := Lib.hid (HP11.out.below hb12)
          have HW12 := Lib.hid (HW11.out.below hgb11 hb12)
          have HB12 := Lib.hid (HB11.out.trans (hb12.mono HB11.out.size))
          have hgb12 := Nat.lt_of_lt_of_le hgb11 hb12.size
          have HX12 := Lib.hid (HX11.out.trans (hb12.mono HX11.out.size))
          clear hb12 HP11 HW11 HB11 hgb11 HX11 hs11
          generalize w11.alloc (.cells #[.bool true, .int .i64 0, .int .u64 0, .int .i64 0] 65) = w12 at *
          refine (tell_r cb pb 1 pcap 64 4096 rm 5 64 0 (roomOf len) _ _ _ _ _ (by decide) HP12).mono ?_
          rintro e w13 ⟨rfl, hb13⟩
          have HP13 := Lib.hid (HP12.out.below hb13)
          have HW13 := Lib.hid (HW12.out.below hgb12 hb13)
          have HB13 := Lib.hid (HB12.out.trans (hb13.mono HB12.out.size))
          have hgb13 := Nat.lt_of_lt_of_le hgb12 hb13.size
          have HX13 := Lib.hid (HX12.out.trans (hb13.mono HX12.out.size))
          clear hb13 HP12 HW12 HB12 hgb12 HX12
          go_wp2_with fail
          refine (find_c cb pb pcap 64 gb len wcap 4096 rm 5 64 (roomOf len) F _ (by decide) (by omega) (by omega) hgb13 HW13 HP13).mono ?_
          rintro e w14 ⟨qg, qcp, rfl, hqg1, hqg2, hw14, hf14, hb14⟩
          have HW14 := Lib.hid hw14
          have HB14 := Lib.hid (HB13.out.trans (hb14.mono HB13.out.size))
          have HX14 := Lib.hid (HX13.out.trans (hb14.mono HX13.out.size))
          clear hw14 hf14 hb14 HP13 HW13 HB13 HX13
          unfold pieceV
          go_wp2_with fail
          obtain ⟨ub, hub⟩ : ∃ ub, ub = w14.heap.size := ⟨_, rfl⟩
          rw [← hub]
          have hb15 : Below w14.heap.size w14 (w14.alloc (.cells #[.int .i64 5, .int .u64 64, .slice (some ⟨qg, 0, none⟩) len qcp, .int .i64 2] 59)) := (Below.refl _ _).alloc (Nat.le_refl _) _
          have HQ : Hid ((w14.alloc (.cells #[.int .i64 5, .int .u64 64, .slice (some ⟨qg, 0, none⟩) len qcp, .int .i64 2] 59)).cell? ⟨ub, 2, none⟩ = some (.slice (some ⟨qg, 0, none⟩) len qcp)) := Lib.hid (World.cell?_alloc_at _ _ _ _ hub)
          have HB15 := Lib.hid (HB14.out.trans (hb15.mono HB14.out.size))
          have HX15 := Lib.hid (HX14.out.trans (hb15.mono HX14.out.size))
          have HW15 := Lib.hid (HW14.out.below hqg2 hb15)
          obtain ⟨_, o1, _, o3, _, _, o6, _, o8, _⟩ := HOP.out
          have HL2 := Lib.hid ((HX15.out.cell (p := ⟨lb, 2, none⟩) o1).trans o6)
          have HL3 : Hid (∀ p, p < len → (w14.alloc (.cells #[.int .i64 5, .int .u64 64, .slice (some ⟨qg, 0, none⟩) len qcp, .int .i64 2] 59)).cell? ⟨lg, p, none⟩ = some (.int .u32 (F p : Nat))) := Lib.hid (fun p hp => (HX15.out.cell (p := ⟨lg, p, none⟩) o3).trans (o8 p hp))
          have HW0 : Hid (∀ p, p < len → (w14.alloc (.cells #[.int .i64 5, .int .u64 64, .slice (some ⟨qg, 0, none⟩) len qcp, .int .i64 2] 59)).cell? ⟨b0, off + p, none⟩ = some (.int .u32 (F p : Nat))) := Lib.hid (fun p hp => (HB15.out.cell (p := ⟨b0, off + p, none⟩) HB.out).trans (HC.out p hp))
          clear hb15 HOP HB14 HX14 HW14 HX15 hub o1 o3 o6 o8
          generalize w14.alloc (.cells #[.int .i64 5, .int .u64 64, .slice (some ⟨qg, 0, none⟩) len qcp, .int .i64 2] 59) = w15 at *
          go_loopw [19] (fun i wr => ∃ j : Nat, i = .int .i64 j ∧ j ≤ len ∧ ∃ q, wr = w15.drewN q) (fun i _ => len - (intOf i).toNat)
          case atStart => exact ⟨0, rfl, by omega, 0, rfl⟩
          case round =>
            obtain ⟨j, rfl, hj, q, rfl⟩ := hrel
            by_cases hlt2 : j < len
            · obtain ⟨x, hx⟩ : ∃ x : Int, x = (F j : Nat) := ⟨_, rfl⟩
              have e1 := HQ.out
              have e2 := HW15.out j hlt2
              have e3 := HL2.out
              have e4 := HL3.out j hlt2
              have e5 := HW0.out j hlt2
              rw [← hx] at e2 e4 e5
              clear hx
              have gj : (j : Int) < len := by omega
              go_wp2
              go_quiet (fail)
              go_wp2
              go_roundw
              case rel => exact ⟨j + 1, by go_num, by omega, _, rfl⟩
              case measure => simp [intOf]; omega
            · obtain rfl : len = j := by omega
              go_wp2
              go_ret
              exact ⟨rfl, below_drewN HB15.out q⟩
end Go.Proofs.Ytpjfjdncdiemlaa
