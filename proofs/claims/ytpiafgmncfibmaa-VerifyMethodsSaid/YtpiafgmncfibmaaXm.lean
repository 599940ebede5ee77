import Derived.Deep.CutRange
import Derived.StillTailTactics
import Derived.BigQuiet
import Derived.Deep.LoopGhost
import Derived.Scope
import Derived.Laws.BitsLemmas
import Derived.IntWalk
import Derived.Laws.BitsAllLaws
import Derived.Deep.DrawnRows
import Derived.Test.YtpiafgmncfibmaaXl
import Derived.Test.YtpiafgmncfibmaaRq
import Derived.Test.YtpiafgmncfibmaaRows
import Derived.WalkKit
import Derived.ProofKit
import Derived.OpenShut
import Derived.Deep.QuietTactic
import Derived.BigQuiet
import Derived.Outline
import Derived.WalkSmall
import Derived.WalkLawsBesides
import Derived.WalkSpells
import Derived.BigGuardPart
import Derived.RegionTactic
import Derived.Deep.RegionHeld3
import Derived.Lib.Hide
import Derived.Deep.MidRow
import Derived.Below
import Derived.Deep.RegionWith
import Derived.Deep.OwnRows
import Derived.Deep.AppendLies
import Derived.Deep.RegionLaw
import Derived.Deep.CutBlock
import Derived.Deep.DeepCutAuto
namespace Go.Proofs.Ytpiafgmncfibmaa.Vf
open Go.ChangeShapes Go.WideShapes Go.ChangeAt Go.RowKit
set_option linter.unusedVariables false

theorem getD_ofNat (l : List Nat) (i : Nat) : (l.map Int.ofNat).getD i 0 = ((l.getD i 0 : Nat) : Int) := by
  rw [List.getD_eq_getElem?_getD, List.getD_eq_getElem?_getD, List.getElem?_map]
  cases l[i]? with
  | none => rfl
  | some x => rfl
set_option maxRecDepth 100000 in
set_option maxHeartbeats 8000000 in
theorem run_c (P : Pg) (A : Ad) (mi : Int) (w : World) (h : PgAt w P A) (hf : Fits P A) (hc : Caps P A) : Calls Try.prog 61 #[.agg (P.cells A), .int .i64 mi] w (RunX P A mi w) := by
  have HCk : Hid (∀ V, Below w.heap.size w V → Calls Try.prog 17 #[.agg #[.slice A.pa P.np A.pc, .slice A.ca P.nc A.cc, .slice A.ma P.nm A.mc]] V fun e w' => e = .returned (.int .i64 P.chk) ∧ Below V.heap.size V w') := Lib.hid fun V hb => refcheck_c P A V (h.kept (Kept.of hb)) hf
  have HIn : Hid (∀ V, Calls Try.prog 87 #[.int .i64 mi, .int .i64 (P.nm : Nat)] V fun e w' => e = .returned (.bool (isIn mi P.nm)) ∧ w' = V) := Lib.hid fun V => in_c mi P.nm V
  by_cases hk : P.chk = 0
  case neg =>
    have HR : Hid (∀ V, Below w.heap.size w V → RunX P A mi w (.returned (.tuple #[.pointer none, .int .i64 0, .int .i64 1])) V) := Lib.hid fun V hb => runX_arg (methR_1 hk) hb
    have d1 : (P.chk != 0) = true := by simpa using hk
    have hE : Below w.heap.size w (w.alloc (.cells #[.slice A.pa P.np A.pc, .slice A.ca P.nc A.cc, .slice A.ma P.nm A.mc] 26)) := (Below.refl _ _).alloc (Nat.le_refl _) _
    have HE := Lib.hid hE
    clear h hf hc hk hE
    show Calls Try.prog 61 #[.agg #[.slice A.pa P.np A.pc, .slice A.ca P.nc A.cc, .slice A.ma P.nm A.mc], .int .i64 mi] w _
    go_enter Try.func61, Try.ntmps61
    go_wp2_with fail
    refine (HCk.out _ HE.out).mono ?_
    rintro e W1 ⟨rfl, hb⟩
    have HB := Lib.hid (HE.out.trans (hb.mono HE.out.size))
    clear hb
    go_wp2
    go_ret3
    exact HR.out _ HB.out
  replace HCk : Hid (∀ V, Below w.heap.size w V → Calls Try.prog 17 #[.agg #[.slice A.pa P.np A.pc, .slice A.ca P.nc A.cc, .slice A.ma P.nm A.mc]] V fun e w' => e = .returned (.int .i64 0) ∧ Below V.heap.size V w') := Lib.hid fun V hb => hk ▸ HCk.out V hb
  cases hin : isIn mi P.nm with
  | false =>
    have HR : Hid (∀ V, Below w.heap.size w V → RunX P A mi w (.returned (.tuple #[.pointer none, .int .i64 0, .int .i64 1])) V) := Lib.hid fun V hb => runX_arg (methR_2 hin) hb
    rw [hin] at HIn
    obtain ⟨W0, hW0⟩ : ∃ q, q = w.alloc (.cells #[.slice A.pa P.np A.pc, .slice A.ca P.nc A.cc, .slice A.ma P.nm A.mc] 26) := ⟨_, rfl⟩
    have HB : Hid (Bx W0 w.heap.size #[.slice A.pa P.np A.pc, .slice A.ca P.nc A.cc, .slice A.ma P.nm A.mc] 26 ∧ Below w.heap.size w W0) := Lib.hid (by rw [hW0]; exact ⟨Bx.new _ _ _, (Below.refl _ _).alloc (Nat.le_refl _) _⟩)
    have HW0 := Lib.hid hW0
    clear h hf hc hk hW0 hin
    show Calls Try.prog 61 #[.agg #[.slice A.pa P.np A.pc, .slice A.ca P.nc A.cc, .slice A.ma P.nm A.mc], .int .i64 mi] w _
    go_enter Try.func61, Try.ntmps61
    go_upto_region 1 with fail
    rw [← HW0.out]
    have p0 : W0.cell? ⟨w.heap.size, 0, none⟩ = some (.slice A.pa P.np A.pc) := HB.out.1.cell 0
    have p1 : W0.cell? ⟨w.heap.size, 1, none⟩ = some (.slice A.ca P.nc A.cc) := HB.out.1.cell 1
    have p2 : W0.cell? ⟨w.heap.size, 2, none⟩ = some (.slice A.ma P.nm A.mc) := HB.out.1.cell 2
    go_wp2_with fail
    refine (HCk.out _ HB.out.2).mono ?_
    rintro e W1 ⟨rfl, hb⟩
    replace HB := Lib.hid (And.intro (HB.out.1.below hb) (HB.out.2.trans (hb.mono HB.out.2.size)))
    clear hb p0 p1 p2
    have p2 : W1.cell? ⟨w.heap.size, 2, none⟩ = some (.slice A.ma P.nm A.mc) := HB.out.1.cell 2
    go_wp2_with fail
    refine (HIn.out _).mono ?_
    rintro e W2 ⟨rfl, rfl⟩
    go_wp2
    go_ret3
    exact HR.out _ HB.out.2
  | true =>
  obtain ⟨m, rfl, hm⟩ := isIn_y hin
  rw [hin] at HIn
  have HP := Lib.hid h
  have HFt := Lib.hid hf
  have HCp := Lib.hid hc
  have HK := Lib.hid hk
  obtain ⟨_, _, hl⟩ := chk_lims hk
  obtain ⟨hpl, q2, q3, q4, q5⟩ := hl m hm
  obtain ⟨bm, om, hma, hbm, hcm⟩ := h.m.resolve_left (by omega)
  have HM4 : Hid (∀ V, Below w.heap.size w V → V.cell? ⟨bm, om + m * 5 + 4, none⟩ = some (.slice (A.cda m) (P.cn m) (A.cdc m))) := Lib.hid fun V hb => (hb.cell (p := ⟨bm, om + m * 5 + 4, none⟩) hbm).trans (hcm m hm).2.2.2.2
  have HMa := Lib.hid hma
  have hmi : (m : Int) < P.nm := by omega
  have HCd : Hid (CodeIn w (A.cda m) (P.cn m) (A.cdc m) (P.cd m)) := Lib.hid ⟨by omega, hc.d m hm, fun i hi => hf.cd m i hm hi, h.d m hm⟩
  have HS0 : Hid (∀ V (rs rh rg : Nat), Nk 0 (P.cn m) rs V → Nk 1 (P.cn m) rh V → Nk 1 (P.cn m) rg V → Below w.heap.size w V → w.heap.size < V.heap.size → w.heap.size < rs → w.heap.size < rh → w.heap.size < rg → rh ≠ rg → _) := Lib.hid fun V rs rh rg b c d e f1 f2 f3 f4 f5 => st0 h hf hc hk hm b c d e f1 f2 f3 f4 f5
  have HNm : Hid (∀ V k, Below w.heap.size w V → Calls Try.prog 90 #[.agg #[.slice A.pa P.np A.pc, .slice A.ca P.nc A.cc, .slice A.ma P.nm A.mc], .int .i64 m, .agg #[.int .i64 (P.cd m k : Nat), .int .i64 (opA (P.cd m) k), .int .i64 (opB (P.cd m) k), .int .i64 (szK (kindO (P.cd m k)) : Nat)]] V fun e w' => e = .returned (.bool (nmB P m (P.cd m k) (opA (P.cd m) k) (opB (P.cd m) k))) ∧ Below V.heap.size V w') := Lib.hid fun V k hb => named_c P A m (P.cd m k) (opA (P.cd m) k) (opB (P.cd m) k) (szK (kindO (P.cd m k)) : Nat) V (h.kept (Kept.of hb)) hf hm hpl
  have HBad : Hid (∀ p e V, flowR P m = (p, e) → e ≠ 0 → Below w.heap.size w V → RunX P A m w (.returned (.tuple #[.pointer none, .int .i64 (p : Nat), .int .i64 e])) V) := Lib.hid fun p e V h1 h2 h3 => runX_bad hk hm h1 h2 h3
  have HTy := Lib.hid (And.intro (tys_of hk) (rt_ne hk))
  have HPl := Lib.hid hpl
  clear h hf hc hk hl hcm hin
  show Calls Try.prog 61 #[.agg #[.slice A.pa P.np A.pc, .slice A.ca P.nc A.cc, .slice A.ma P.nm A.mc], .int .i64 m] w _
  rw [hma] at HCk HNm ⊢
  clear hma
  obtain ⟨W0, hW0⟩ : ∃ q, q = w.alloc (.cells #[.slice A.pa P.np A.pc, .slice A.ca P.nc A.cc, .slice (some ⟨bm, om, none⟩) P.nm A.mc] 26) := ⟨_, rfl⟩
  have HB : Hid (Bx W0 w.heap.size #[.slice A.pa P.np A.pc, .slice A.ca P.nc A.cc, .slice (some ⟨bm, om, none⟩) P.nm A.mc] 26 ∧ Below w.heap.size w W0) := Lib.hid (by rw [hW0]; exact ⟨Bx.new _ _ _, (Below.refl _ _).alloc (Nat.le_refl _) _⟩)
  have HW0 := Lib.hid hW0
  clear hW0
  go_enter Try.func61, Try.ntmps61
  go_upto_region 1 with fail
  rw [← HW0.out]
  have p0 : W0.cell? ⟨w.heap.size, 0, none⟩ = some (.slice A.pa P.np A.pc) := HB.out.1.cell 0
  have p1 : W0.cell? ⟨w.heap.size, 1, none⟩ = some (.slice A.ca P.nc A.cc) := HB.out.1.cell 1
  have p2 : W0.cell? ⟨w.heap.size, 2, none⟩ = some (.slice (some ⟨bm, om, none⟩) P.nm A.mc) := HB.out.1.cell 2
  go_wp2_with fail
  refine (HCk.out _ HB.out.2).mono ?_
  rintro e W1 ⟨rfl, hb⟩
  clear p0 p1 p2
  replace HB := Lib.hid (And.intro (HB.out.1.below hb) (HB.out.2.trans (hb.mono HB.out.2.size)))
  clear hb
  have p2 : W1.cell? ⟨w.heap.size, 2, none⟩ = some (.slice (some ⟨bm, om, none⟩) P.nm A.mc) := HB.out.1.cell 2
  have m4 := HM4.out W1 HB.out.2
  go_upto_region 4 with (go_at_call 87; refine (HIn.out _).mono ?_; rintro e W2 ⟨rfl, hww⟩; obtain rfl := hww.symm)
  clear p2 m4
  have HPc : Hid (Calls Try.prog 88 #[.slice (A.cda m) (P.cn m) (A.cdc m)] W1 (PlcP (P.cn m) (P.cd m) W1)) := Lib.hid (places_c (A.cda m) (P.cn m) (A.cdc m) (P.cd m) W1 (HCd.out.kept (Kept.of HB.out.2)))
  obtain ⟨n, hn⟩ : ∃ q, P.cn m = q := ⟨_, rfl⟩
  obtain ⟨D, hD⟩ : ∃ q, P.cd m = q := ⟨_, rfl⟩
  have HN := Lib.hid hn
  have HD := Lib.hid hD
  rw [hn] at HCd HPc HS0 q4 q5
  rw [hD] at HCd HPc HNm
  rw [hn]
  clear hn hD
  go_wp2_with fail
  refine HPc.out.mono ?_
  rintro e W2 ⟨hb2, hq⟩
  replace HB : Hid (Bx W2 w.heap.size #[.slice A.pa P.np A.pc, .slice A.ca P.nc A.cc, .slice (some ⟨bm, om, none⟩) P.nm A.mc] 26 ∧ Below w.heap.size w W2) := Lib.hid (And.intro (HB.out.1.below hb2) (HB.out.2.trans (hb2.mono HB.out.2.size)))
  clear hb2 HPc
  by_cases hr0 : (rdR n D).2 = 0
  case neg =>
    rw [if_neg hr0] at hq
    obtain rfl := hq
    have HFl : Hid (flowR P m = ((rdR n D).1, (rdR n D).2)) := Lib.hid (flowR_1 (by rw [HN.out, HD.out]) hr0)
    have HR0 := Lib.hid hr0
    have d1 : ((rdR n D).2 != 0) = true := by simpa using hr0
    clear hr0
    generalize (rdR n D).2 = er at HFl HR0 d1 ⊢
    generalize (rdR n D).1 = pr at HFl ⊢
    go_wp2
    go_ret3
    exact HBad.out pr er _ HFl.out HR0.out HB.out.2
  rw [if_pos hr0] at hq
  obtain ⟨la, lc, rfl, hI⟩ := hq
  have HR0 := Lib.hid hr0
  have HLi := Lib.hid hI
  have HMem : Hid (∀ x, x ∈ begs n D n 0 → x < n ∧ rdE n D x = 0) := Lib.hid fun x hx => ⟨(begs_chain n D n 0 (by omega) x hx).1, (begs_chain n D n 0 (by omega) x hx).2.1⟩
  have HChk : Hid (∀ i, i < (begs n D n 0).length → chkB P m n D (inL (begs n D n 0)) ((begs n D n 0).getD i 0) ≠ 0 → (∀ j, j < i → chkB P m n D (inL (begs n D n 0)) ((begs n D n 0).getD j 0) = 0) → flowR P m = ((begs n D n 0).getD i 0, chkB P m n D (inL (begs n D n 0)) ((begs n D n 0).getD i 0))) := Lib.hid fun i h1 h2 h3 => flowR_2 (p0 := (rdR n D).1) (by rw [HN.out, HD.out]; exact Prod.ext rfl hr0) (by rw [HN.out, HD.out]; exact chkL_some h1 h2 h3) h2
  have HChz : Hid ((∀ j, j < (begs n D n 0).length → chkB P m n D (inL (begs n D n 0)) ((begs n D n 0).getD j 0) = 0) → chkR P m n D (inL (begs n D n 0)) = (0, 0)) := Lib.hid fun h1 => chkL_none h1
  have hll : (begs n D n 0).length ≤ n := begs_len n D n 0
  clear hr0 hI
  obtain ⟨L, hL⟩ : ∃ q, begs n D n 0 = q := ⟨_, rfl⟩
  have HL := Lib.hid hL
  rw [hL] at HLi HMem HChk HChz hll ⊢
  clear hL
  obtain ⟨LL, hLL⟩ : ∃ q, L.length = q := ⟨_, rfl⟩
  have HLL := Lib.hid hLL
  rw [hLL] at HChk HChz hll ⊢
  clear hLL
  have HBg : Hid (∀ V p, Below W2.heap.size W2 V → Calls Try.prog 91 #[.slice la LL lc, .int .i64 p] V fun e w' => e = .returned (.bool (decide (0 ≤ p ∧ p < n ∧ inL L p.toNat = true))) ∧ Below V.heap.size V w') := Lib.hid fun V p hb => by
    have h1 := begins_r (L.map Int.ofNat) la lc p V (HLi.out.kept (Kept.of hb)) (by rw [List.length_map, HLL.out]; omega)
    rw [List.length_map, HLL.out, mem_ofNat n (fun x hx => (HMem.out x hx).1)] at h1
    exact h1
  have HRd : Hid (∀ V k, Below w.heap.size w V → k ∈ L → Calls Try.prog 89 #[.slice (A.cda m) n (A.cdc m), .int .i64 (k : Nat)] V fun e w' => e = .returned (.tuple #[.agg #[.int .i64 (D k : Nat), .int .i64 (opA D k), .int .i64 (opB D k), .int .i64 (szK (kindO (D k)) : Nat)], .int .i64 0]) ∧ Below V.heap.size V w') := Lib.hid fun V k hb hkL => by
    have h1 := rread_c (A.cda m) n (A.cdc m) D k V (HCd.out.kept (Kept.of hb)) (HMem.out k hkL).1
    rw [rdC_ok2 (HMem.out k hkL).2, (HMem.out k hkL).2] at h1
    exact h1
  have HOp : Hid (∀ k, k ∈ L → -32768 ≤ opA D k ∧ opA D k ≤ 32767) := Lib.hid fun k hkL => opA_bd2 (n := n) HCd.out.byt (HMem.out k hkL).2
  have HRow : Hid (0 < LL → ∃ b o, la = some ⟨b, o, none⟩ ∧ b < W2.heap.size ∧ ∀ i, i < LL → W2.cell? ⟨b, o + i, none⟩ = some (.int .i64 ((L.getD i 0 : Nat) : Int))) := Lib.hid fun h0 => by
    obtain ⟨b, o, h1, h2, h3⟩ := HLi.out.at (by rw [List.length_map, HLL.out]; exact h0)
    exact ⟨b, o, h1, h2, fun i hi => by rw [h3 i (by rw [List.length_map, HLL.out]; exact hi), getD_ofNat]⟩
  have HmemL : Hid (∀ i, i < LL → L.getD i 0 ∈ L) := Lib.hid fun i hi => getD_mem (by rw [HLL.out]; exact hi)
  have hws : w.heap.size < W2.heap.size := HB.out.1.lt
  go_wp2_with fail
  go_loopw [11] (fun i wr => ∃ z : Nat, z ≤ LL ∧ i = .int .i64 z ∧ Hid (Below W2.heap.size W2 wr) ∧ Hid (∀ j, j < z → chkB P m n D (inL L) (L.getD j 0) = 0)) (fun i _ => LL - (intOf i).toNat)
  case atStart => exact ⟨0, Nat.zero_le _, rfl, Lib.hid (Below.refl _ _), Lib.hid fun j hj => absurd hj (Nat.not_lt_zero _)⟩
  case round =>
    obtain ⟨z, hz, rfl, HW, HZ⟩ := hrel
    by_cases hzl : z < LL
    · have hzi : (z : Int) < LL := by omega
      have dz : decide ((z : Int) < (LL : Int)) = true := decide_eq_true hzi
      have dz' : decide (z < LL) = true := decide_eq_true hzl
      obtain ⟨ba, oa, hla, hba, hca⟩ := HRow.out (by omega)
      have y0 := hca z hzl
      have hkL := HmemL.out z hzl
      have HCz := Lib.hid (HChk.out z hzl)
      obtain ⟨k, hk⟩ : ∃ q, L.getD z 0 = q := ⟨_, rfl⟩
      have HKz := Lib.hid hk
      rw [hk] at y0 hkL HCz
      clear hk hca
      have HY : Hid (∀ V, Below W2.heap.size W2 V → V.cell? ⟨ba, oa + z, none⟩ = some (.int .i64 (k : Nat))) := Lib.hid fun V hb => (hb.cell (p := ⟨ba, oa + z, none⟩) hba).trans y0
      clear y0
      have y0 := HY.out wr HW.out
      have HKm := Lib.hid (And.intro hkL (And.intro (HMem.out k hkL) (HOp.out k hkL)))
      have hkn : k < n := (HMem.out k hkL).1
      obtain ⟨ha0, ha1⟩ := HOp.out k hkL
      have HRk := Lib.hid (HRd.out wr k (HB.out.2.trans (HW.out.mono HB.out.2.size)) hkL)
      have HOn : Hid (inL L k = true) := Lib.hid (inL_iff.2 hkL)
      have HBgk : Hid (∀ V, Below W2.heap.size W2 V → Calls Try.prog 91 #[.slice la LL lc, .int .i64 ((k : Int) + opA D k)] V fun e w' => e = .returned (.bool (decide (0 ≤ (k : Int) + opA D k ∧ (k : Int) + opA D k < n ∧ inL L ((k : Int) + opA D k).toNat = true))) ∧ Below V.heap.size V w') := Lib.hid fun V hb => HBg.out V _ hb
      rw [hla] at HBgk ⊢
      clear hkL
      go_upto_region 11 with (go_at_call 89; refine HRk.out.mono ?_; rintro e Wr ⟨rfl, hbr⟩)
      obtain ⟨W3, hW3⟩ : ∃ q, q = Wr.alloc (.cells #[.int .i64 (D k : Nat), .int .i64 (opA D k), .int .i64 (opB D k), .int .i64 (szK (kindO (D k)) : Nat)] 141) := ⟨_, rfl⟩
      obtain ⟨t9, ht9⟩ : ∃ q, q = Wr.heap.size := ⟨_, rfl⟩
      have HB3 : Hid (Bx W3 w.heap.size #[.slice A.pa P.np A.pc, .slice A.ca P.nc A.cc, .slice (some ⟨bm, om, none⟩) P.nm A.mc] 26 ∧ Below W2.heap.size W2 W3 ∧ Bx W3 t9 #[.int .i64 (D k : Nat), .int .i64 (opA D k), .int .i64 (opB D k), .int .i64 (szK (kindO (D k)) : Nat)] 141) := Lib.hid (by
        have hb1 : Below W2.heap.size W2 Wr := HW.out.trans (hbr.mono HW.out.size)
        have hb2 : Below W2.heap.size W2 W3 := by rw [hW3]; exact hb1.alloc hb1.size _
        exact ⟨HB.out.1.below hb2, hb2, by rw [hW3, ht9]; exact Bx.new _ _ _⟩)
      rw [← hW3, ← ht9]
      clear hW3 ht9 hbr y0
      have HNk := Lib.hid (HNm.out W3 k (HB.out.2.trans (HB3.out.2.1.mono HB.out.2.size)))
      have p0 : W3.cell? ⟨w.heap.size, 0, none⟩ = some (.slice A.pa P.np A.pc) := HB3.out.1.cell 0
      have p1 : W3.cell? ⟨w.heap.size, 1, none⟩ = some (.slice A.ca P.nc A.cc) := HB3.out.1.cell 1
      have p2 : W3.cell? ⟨w.heap.size, 2, none⟩ = some (.slice (some ⟨bm, om, none⟩) P.nm A.mc) := HB3.out.1.cell 2
      have o0 : W3.cell? ⟨t9, 0, none⟩ = some (.int .i64 (D k : Nat)) := HB3.out.2.2.cell 0
      have o1 : W3.cell? ⟨t9, 1, none⟩ = some (.int .i64 (opA D k)) := HB3.out.2.2.cell 1
      have o2 : W3.cell? ⟨t9, 2, none⟩ = some (.int .i64 (opB D k)) := HB3.out.2.2.cell 2
      have o3 : W3.cell? ⟨t9, 3, none⟩ = some (.int .i64 (szK (kindO (D k)) : Nat)) := HB3.out.2.2.cell 3
      go_wp2_with fail
      refine HNk.out.mono ?_
      rintro e W4 ⟨rfl, hb4⟩
      have HB4 : Hid (Below W2.heap.size W2 W4 ∧ Bx W4 t9 #[.int .i64 (D k : Nat), .int .i64 (opA D k), .int .i64 (opB D k), .int .i64 (szK (kindO (D k)) : Nat)] 141) := Lib.hid ⟨HB3.out.2.1.trans (hb4.mono HB3.out.2.1.size), HB3.out.2.2.below hb4⟩
      clear hb4 p0 p1 p2 o0 o1 o2 o3
      have y0 := HY.out W4 HB4.out.1
      have o0 : W4.cell? ⟨t9, 0, none⟩ = some (.int .i64 (D k : Nat)) := HB4.out.2.cell 0
      have o1 : W4.cell? ⟨t9, 1, none⟩ = some (.int .i64 (opA D k)) := HB4.out.2.cell 1
      cases hnm : nmB P m (D k) (opA D k) (opB D k) with
      | false =>
        have HF : Hid (flowR P m = (k, 24)) := Lib.hid (by
          have h1 : chkB P m n D (inL L) k = 24 := by unfold chkB; rw [if_pos HOn.out, if_pos hnm]
          have h2 := HCz.out (by rw [h1]; decide) HZ.out
          rw [h1] at h2
          exact h2)
        clear hnm
        go_wp2_with fail
        go_quiet (fail)
        go_wp2
        go_ret3
        exact HBad.out k 24 _ HF.out (by decide) (HB.out.2.trans ((below_drewN HB4.out.1 _).mono HB.out.2.size))
      | true =>
      have HOv : Hid (chkB P m n D (inL L) k = if jumpB (D k) = true ∧ ¬ (0 ≤ (k : Int) + opA D k ∧ (k : Int) + opA D k < n ∧ inL L ((k : Int) + opA D k).toNat = true) then 23 else 0) := Lib.hid (by unfold chkB; rw [if_pos HOn.out, if_neg (by rw [hnm]; decide)])
      clear hnm
      have hw : IntKind.i64.wrap ((k : Int) + opA D k) = (k : Int) + opA D k := by rw [IntKind.wrap_i64]; omega
      by_cases hj : D k = 25 ∨ D k = 26
      case neg =>
        have e25 : ((D k : Int) == 25) = false := eqB_n (show ¬ D k = 25 by omega)
        have e26 : ((D k : Int) == 26) = false := eqB_n (show ¬ D k = 26 by omega)
        have HO : Hid (chkB P m n D (inL L) k = 0) := Lib.hid (HOv.out.trans (if_neg (fun q => hj (of_decide_eq_true q.1))))
        clear hj
        go_wp2_with fail
        go_quiet (fail)
        go_wp2
        exact ⟨⟨z + 1, by omega, by go_num, Lib.hid (below_drewN HB4.out.1 _), Lib.hid fun j hjz => by
          by_cases hjk : j = z
          · subst hjk; rw [HKz.out]; exact HO.out
          · exact HZ.out j (by omega)⟩, by simp [intOf]; omega⟩
      have hjb : jumpB (D k) = true := decide_eq_true hj
      have HJb := Lib.hid hjb
      clear hjb
      have HX : Hid (∀ V, Below W4.heap.size W4 V → V.cell? ⟨t9, 0, none⟩ = some (.int .i64 (D k : Nat)) ∧ V.cell? ⟨t9, 1, none⟩ = some (.int .i64 (opA D k)) ∧ V.cell? ⟨ba, oa + z, none⟩ = some (.int .i64 (k : Nat))) := Lib.hid fun V hb => ⟨(HB4.out.2.below hb).cell 0, (HB4.out.2.below hb).cell 1, HY.out V (HB4.out.1.trans (hb.mono HB4.out.1.size))⟩
      obtain ⟨bg, hbg⟩ : ∃ q, decide (0 ≤ (k : Int) + opA D k ∧ (k : Int) + opA D k < n ∧ inL L ((k : Int) + opA D k).toNat = true) = q := ⟨_, rfl⟩
      rw [hbg] at HBgk
      have HBv := Lib.hid hbg
      clear hbg
      by_cases h25 : D k = 25
      · have e25 : ((D k : Int) == 25) = true := by rw [h25]; rfl
        clear hj h25
        go_upto_region 13 with fail
        refine region_e 19 (fun w' => w'.cell? ⟨t9, 0, none⟩ = some (.int .i64 (D k : Nat)) ∧ w'.cell? ⟨t9, 1, none⟩ = some (.int .i64 (opA D k)) ∧ w'.cell? ⟨ba, oa + z, none⟩ = some (.int .i64 (k : Nat))) (by kernel_rfl) (HX.out _ (Below.refl _ _).drew) (fun hHeld => ?_)
        refine AnyE.take2 (i := 0) [8, 3, 2, 1] (oi := { dst := some 68, op := Go.Op.fieldAddr 141 (Go.Operand.tmp 12) 0, type := 0, pos := "ref.go:252", after := #[], guard := none }) (v := ?_) rfl (by kernel_rfl) (by kernel_rfl) (by kernel_rfl) (by kernel_rfl) (fun _ _ _ h => h) (Or.inl ⟨by rfl, ?_⟩) (by assumption) ?_
        rotate_left
        · (intro w0 hSw; (try dsimp only at hSw); go_split_ands; go_simp; with_reducible rfl)
        try simp only [Act.put, List.setIfInBounds_toArray, List.set_cons_zero, List.set_cons_succ]
        refine AnyE.take2 (i := 1) [8, 3, 2] (oi := { dst := some 69, op := Go.Op.load 3 (Go.Operand.tmp 68), type := 3, pos := "ref.go:252", after := #[{ on := 0, ground := Go.Ground.data }], guard := none }) (v := ?_) rfl (by kernel_rfl) (by kernel_rfl) (by kernel_rfl) (by kernel_rfl) (fun _ _ _ h => h) (Or.inl ⟨by rfl, ?_⟩) (by assumption) ?_
        rotate_left
        · (intro w0 hSw; (try dsimp only at hSw); go_split_ands; go_simp; with_reducible rfl)
        try simp only [Act.put, List.setIfInBounds_toArray, List.set_cons_zero, List.set_cons_succ]
        refine AnyE.take2 (i := 2) [8, 3] (oi := { dst := some 70, op := Go.Op.binOp Go.BinOp.eql 3 (Go.Operand.tmp 69) (Go.Operand.const (Go.Value.int Go.IntKind.i64 25)) 3, type := 4, pos := "ref.go:252", after := #[{ on := 1, ground := Go.Ground.data }], guard := none }) (v := ?_) rfl (by kernel_rfl) (by kernel_rfl) (by kernel_rfl) (by kernel_rfl) (fun _ _ _ h => h) (Or.inl ⟨by rfl, ?_⟩) (by assumption) ?_
        rotate_left
        · (intro w0 hSw; (try dsimp only at hSw); go_split_ands; go_simp; with_reducible rfl)
        try simp only [Act.put, List.setIfInBounds_toArray, List.set_cons_zero, List.set_cons_succ]
        refine AnyE.take2 (i := 3) [8] (oi := { dst := some 71, op := Go.Op.move (Go.Operand.tmp 70), type := 4, pos := "ref.go:252", after := #[{ on := 2, ground := Go.Ground.data }], guard := none }) (v := ?_) rfl (by kernel_rfl) (by kernel_rfl) (by kernel_rfl) (by kernel_rfl) (fun _ _ _ h => h) (Or.inl ⟨by rfl, ?_⟩) (by assumption) ?_
        rotate_left
        · (intro w0 hSw; (try dsimp only at hSw); go_split_ands; go_simp; with_reducible rfl)
        try simp only [Act.put, List.setIfInBounds_toArray, List.set_cons_zero, List.set_cons_succ]
        refine AnyE.take2 (i := 4) [8, 7, 6, 5] (oi := { dst := some 72, op := Go.Op.fieldAddr 141 (Go.Operand.tmp 12) 0, type := 0, pos := "ref.go:252", after := #[{ on := 3, ground := Go.Ground.guard }], guard := some (3, false) }) (v := undef) rfl (by kernel_rfl) (by kernel_rfl) (by kernel_rfl) (by kernel_rfl) (fun _ _ _ h => h) (Or.inr ⟨by rfl, rfl⟩) (by assumption) ?_
        try simp only [Act.put, List.setIfInBounds_toArray, List.set_cons_zero, List.set_cons_succ]
        refine AnyE.take2 (i := 5) [8, 7, 6] (oi := { dst := some 73, op := Go.Op.load 3 (Go.Operand.tmp 72), type := 3, pos := "ref.go:252", after := #[{ on := 4, ground := Go.Ground.data }, { on := 3, ground := Go.Ground.guard }], guard := some (3, false) }) (v := undef) rfl (by kernel_rfl) (by kernel_rfl) (by kernel_rfl) (by kernel_rfl) (fun _ _ _ h => h) (Or.inr ⟨by rfl, rfl⟩) (by assumption) ?_
        try simp only [Act.put, List.setIfInBounds_toArray, List.set_cons_zero, List.set_cons_succ]
        refine AnyE.take2 (i := 6) [8, 7] (oi := { dst := some 74, op := Go.Op.binOp Go.BinOp.eql 3 (Go.Operand.tmp 73) (Go.Operand.const (Go.Value.int Go.IntKind.i64 26)) 3, type := 4, pos := "ref.go:252", after := #[{ on := 5, ground := Go.Ground.data }, { on := 3, ground := Go.Ground.guard }], guard := some (3, false) }) (v := undef) rfl (by kernel_rfl) (by kernel_rfl) (by kernel_rfl) (by kernel_rfl) (fun _ _ _ h => h) (Or.inr ⟨by rfl, rfl⟩) (by assumption) ?_
        try simp only [Act.put, List.setIfInBounds_toArray, List.set_cons_zero, List.set_cons_succ]
        refine AnyE.take2 (i := 7) [8] (oi := { dst := some 75, op := Go.Op.pick (Go.Operand.tmp 71) (Go.Operand.const (Go.Value.bool true)) (Go.Operand.tmp 74), type := 4, pos := "ref.go:252", after := #[{ on := 3, ground := Go.Ground.data }, { on := 6, ground := Go.Ground.data }], guard := none }) (v := ?_) rfl (by kernel_rfl) (by kernel_rfl) (by kernel_rfl) (by kernel_rfl) (fun _ _ _ h => h) (Or.inl ⟨by rfl, ?_⟩) (by assumption) ?_
        rotate_left
        · (intro w0 hSw; (try dsimp only at hSw); go_split_ands; go_simp; with_reducible rfl)
        try simp only [Act.put, List.setIfInBounds_toArray, List.set_cons_zero, List.set_cons_succ]
        refine AnyE.take2 (i := 8) [] (oi := { dst := some 76, op := Go.Op.move (Go.Operand.tmp 75), type := 4, pos := "ref.go:252", after := #[{ on := 7, ground := Go.Ground.data }, { on := 3, ground := Go.Ground.chain }], guard := none }) (v := ?_) rfl (by kernel_rfl) (by kernel_rfl) (by kernel_rfl) (by kernel_rfl) (fun _ _ _ h => h) (Or.inl ⟨by rfl, ?_⟩) (by assumption) ?_
        rotate_left
        · (intro w0 hSw; (try dsimp only at hSw); go_split_ands; go_simp; with_reducible rfl)
        try simp only [Act.put, List.setIfInBounds_toArray, List.set_cons_zero, List.set_cons_succ]
        refine AnyE.take2 (i := 9) [18, 17] (oi := { dst := some 77, op := Go.Op.move (Go.Operand.tmp 8), type := 48, pos := "ref.go:252", after := #[{ on := 8, ground := Go.Ground.guard }], guard := some (8, true) }) (v := ?_) rfl (by kernel_rfl) (by kernel_rfl) (by kernel_rfl) (by kernel_rfl) (fun _ _ _ h => h) (Or.inl ⟨by rfl, ?_⟩) (by assumption) ?_
        rotate_left
        · (intro w0 hSw; (try dsimp only at hSw); go_split_ands; go_simp; with_reducible rfl)
        try simp only [Act.put, List.setIfInBounds_toArray, List.set_cons_zero, List.set_cons_succ]
        refine AnyE.take2 (i := 10) [18, 17, 16, 13, 12] (oi := { dst := some 78, op := Go.Op.move (Go.Operand.tmp 8), type := 48, pos := "ref.go:252", after := #[{ on := 8, ground := Go.Ground.guard }], guard := some (8, true) }) (v := ?_) rfl (by kernel_rfl) (by kernel_rfl) (by kernel_rfl) (by kernel_rfl) (fun _ _ _ h => h) (Or.inl ⟨by rfl, ?_⟩) (by assumption) ?_
        rotate_left
        · (intro w0 hSw; (try dsimp only at hSw); go_split_ands; go_simp; with_reducible rfl)
        try simp only [Act.put, List.setIfInBounds_toArray, List.set_cons_zero, List.set_cons_succ]
        refine AnyE.take2 (i := 11) [18, 17, 16, 13, 12] (oi := { dst := some 79, op := Go.Op.move (Go.Operand.tmp 11), type := 3, pos := "ref.go:252", after := #[{ on := 8, ground := Go.Ground.guard }], guard := some (8, true) }) (v := ?_) rfl (by kernel_rfl) (by kernel_rfl) (by kernel_rfl) (by kernel_rfl) (fun _ _ _ h => h) (Or.inl ⟨by rfl, ?_⟩) (by assumption) ?_
        rotate_left
        · (intro w0 hSw; (try dsimp only at hSw); go_split_ands; go_simp; with_reducible rfl)
        try simp only [Act.put, List.setIfInBounds_toArray, List.set_cons_zero, List.set_cons_succ]
        refine AnyE.take2 (i := 12) [18, 17, 16, 13] (oi := { dst := some 80, op := Go.Op.indexAddr 48 (Go.Operand.tmp 78) (Go.Operand.tmp 79), type := 0, pos := "ref.go:252", after := #[{ on := 10, ground := Go.Ground.data }, { on := 11, ground := Go.Ground.data }, { on := 8, ground := Go.Ground.guard }], guard := some (8, true) }) (v := ?_) rfl (by kernel_rfl) (by kernel_rfl) (by kernel_rfl) (by kernel_rfl) (fun _ _ _ h => h) (Or.inl ⟨by rfl, ?_⟩) (by assumption) ?_
        rotate_left
        · (intro w0 hSw; (try dsimp only at hSw); go_split_ands; go_simp; with_reducible rfl)
        try simp only [Act.put, List.setIfInBounds_toArray, List.set_cons_zero, List.set_cons_succ]
        refine AnyE.take2 (i := 13) [18, 17, 16] (oi := { dst := some 81, op := Go.Op.load 3 (Go.Operand.tmp 80), type := 3, pos := "ref.go:252", after := #[{ on := 12, ground := Go.Ground.data }, { on := 8, ground := Go.Ground.guard }], guard := some (8, true) }) (v := ?_) rfl (by kernel_rfl) (by kernel_rfl) (by kernel_rfl) (by kernel_rfl) (fun _ _ _ h => h) (Or.inl ⟨by rfl, ?_⟩) (by assumption) ?_
        rotate_left
        · (intro w0 hSw; (try dsimp only at hSw); go_split_ands; go_simp; with_reducible rfl)
        try simp only [Act.put, List.setIfInBounds_toArray, List.set_cons_zero, List.set_cons_succ]
        refine AnyE.take2 (i := 14) [18, 17, 16, 15] (oi := { dst := some 82, op := Go.Op.fieldAddr 141 (Go.Operand.tmp 12) 1, type := 0, pos := "ref.go:252", after := #[{ on := 8, ground := Go.Ground.guard }], guard := some (8, true) }) (v := ?_) rfl (by kernel_rfl) (by kernel_rfl) (by kernel_rfl) (by kernel_rfl) (fun _ _ _ h => h) (Or.inl ⟨by rfl, ?_⟩) (by assumption) ?_
        rotate_left
        · (intro w0 hSw; (try dsimp only at hSw); go_split_ands; go_simp; with_reducible rfl)
        try simp only [Act.put, List.setIfInBounds_toArray, List.set_cons_zero, List.set_cons_succ]
        refine AnyE.take2 (i := 15) [18, 17, 16] (oi := { dst := some 83, op := Go.Op.load 3 (Go.Operand.tmp 82), type := 3, pos := "ref.go:252", after := #[{ on := 14, ground := Go.Ground.data }, { on := 8, ground := Go.Ground.guard }], guard := some (8, true) }) (v := ?_) rfl (by kernel_rfl) (by kernel_rfl) (by kernel_rfl) (by kernel_rfl) (fun _ _ _ h => h) (Or.inl ⟨by rfl, ?_⟩) (by assumption) ?_
        rotate_left
        · (intro w0 hSw; (try dsimp only at hSw); go_split_ands; go_simp; with_reducible rfl)
        try simp only [Act.put, List.setIfInBounds_toArray, List.set_cons_zero, List.set_cons_succ]
        refine AnyE.take2 (i := 16) [18, 17] (oi := { dst := some 84, op := Go.Op.binOp Go.BinOp.add 3 (Go.Operand.tmp 81) (Go.Operand.tmp 83) 3, type := 3, pos := "ref.go:252", after := #[{ on := 13, ground := Go.Ground.data }, { on := 15, ground := Go.Ground.data }, { on := 8, ground := Go.Ground.guard }], guard := some (8, true) }) (v := ?_) rfl (by kernel_rfl) (by kernel_rfl) (by kernel_rfl) (by kernel_rfl) (fun _ _ _ h => h) (Or.inl ⟨by rfl, ?_⟩) (by assumption) ?_
        rotate_left
        · (intro w0 hSw; (try dsimp only at hSw); go_split_ands; go_simp; with_reducible rfl)
        try simp only [Act.put, List.setIfInBounds_toArray, List.set_cons_zero, List.set_cons_succ]
        refine AnyE.ready (rs := [17]) (by kernel_rfl) (by simp) ?_
        refine AllE.cons (o := { dst := some 85, op := Go.Op.call { callee := Go.Callee.value (Go.Operand.func 91), args := #[Go.Operand.tmp 77, Go.Operand.tmp 84], argTypes := #[48, 3] }, type := 4, pos := "ref.go:252", after := #[{ on := 9, ground := Go.Ground.data }, { on := 16, ground := Go.Ground.data }, { on := 8, ground := Go.Ground.chain }, { on := 8, ground := Go.Ground.guard }], guard := some (8, true) }) rfl (fun KK hKK => ?_) AllE.nil
        go_simp
        go_at_call 91
        refine (HBgk.out _ (HB4.out.1.trans ((Below.refl _ _).drew.mono HB4.out.1.size))).mono ?_
        rintro e W5 ⟨rfl, hb5⟩
        have HB5 := Lib.hid ((Below.refl W4.heap.size W4).drew.trans hb5)
        clear hb5
        refine hKK.out _ _ (HX.out _ HB5.out) (fun hHeld => ?_)
        clear hKK KK
        try simp only [Act.put, List.setIfInBounds_toArray, List.set_cons_zero, List.set_cons_succ]
        refine AnyE.take2 (i := 18) [] (oi := { dst := some 86, op := Go.Op.unOp Go.UnOp.not 4 (Go.Operand.tmp 85), type := 4, pos := "ref.go:252", after := #[{ on := 17, ground := Go.Ground.data }, { on := 8, ground := Go.Ground.guard }], guard := some (8, true) }) (v := ?_) rfl (by kernel_rfl) (by kernel_rfl) (by kernel_rfl) (by kernel_rfl) (fun _ _ _ h => h) (Or.inl ⟨by rfl, ?_⟩) (by assumption) ?_
        rotate_left
        · (intro w0 hSw; (try dsimp only at hSw); go_split_ands; go_simp; with_reducible rfl)
        try simp only [Act.put, List.setIfInBounds_toArray, List.set_cons_zero, List.set_cons_succ]
        refine AnyE.ready (rs := [19]) (by kernel_rfl) (by simp) ?_
        refine AllE.last (o := { dst := some 87, op := Go.Op.pick (Go.Operand.tmp 76) (Go.Operand.tmp 86) (Go.Operand.const (Go.Value.bool false)), type := 4, pos := "ref.go:252", after := #[{ on := 8, ground := Go.Ground.data }, { on := 18, ground := Go.Ground.data }], guard := none }) rfl (by kernel_rfl) (fun KK hKK => ?_)
        go_simp
        refine hKK.out _ _ ?_
        clear hKK KK
        try simp only [Act.put, List.setIfInBounds_toArray, List.set_cons_zero, List.set_cons_succ]
        have y5 := (HX.out _ HB5.out).2.2
        cases bg with
        | true =>
          have HO : Hid (chkB P m n D (inL L) k = 0) := Lib.hid (HOv.out.trans (if_neg (fun q => q.2 (of_decide_eq_true HBv.out))))
          go_wp2
          exact ⟨⟨z + 1, by omega, by go_num, Lib.hid (HB4.out.1.trans (HB5.out.mono HB4.out.1.size)), Lib.hid fun j hjz => by
            by_cases hjk : j = z
            · subst hjk; rw [HKz.out]; exact HO.out
            · exact HZ.out j (by omega)⟩, by simp [intOf]; omega⟩
        | false =>
          have HF : Hid (flowR P m = (k, 23)) := Lib.hid (by
            have h1 : chkB P m n D (inL L) k = 23 := HOv.out.trans (if_pos ⟨HJb.out, of_decide_eq_false HBv.out⟩)
            have h2 := HCz.out (by rw [h1]; decide) HZ.out
            rw [h1] at h2
            exact h2)
          go_wp2_with fail
          go_quiet (fail)
          go_wp2
          go_ret3
          exact HBad.out k 23 _ HF.out (by decide) (HB.out.2.trans ((below_drewN (HB4.out.1.trans (HB5.out.mono HB4.out.1.size)) _).mono HB.out.2.size))
      · have e25 : ((D k : Int) == 25) = false := eqB_n h25
        have e26 : ((D k : Int) == 26) = true := by rw [show D k = 26 by omega]; rfl
        clear hj h25
        go_upto_region 13 with fail
        refine region_e 19 (fun w' => w'.cell? ⟨t9, 0, none⟩ = some (.int .i64 (D k : Nat)) ∧ w'.cell? ⟨t9, 1, none⟩ = some (.int .i64 (opA D k)) ∧ w'.cell? ⟨ba, oa + z, none⟩ = some (.int .i64 (k : Nat))) (by kernel_rfl) (HX.out _ (Below.refl _ _).drew) (fun hHeld => ?_)
        refine AnyE.take2 (i := 0) [8, 3, 2, 1] (oi := { dst := some 68, op := Go.Op.fieldAddr 141 (Go.Operand.tmp 12) 0, type := 0, pos := "ref.go:252", after := #[], guard := none }) (v := ?_) rfl (by kernel_rfl) (by kernel_rfl) (by kernel_rfl) (by kernel_rfl) (fun _ _ _ h => h) (Or.inl ⟨by rfl, ?_⟩) (by assumption) ?_
        rotate_left
        · (intro w0 hSw; (try dsimp only at hSw); go_split_ands; go_simp; with_reducible rfl)
        try simp only [Act.put, List.setIfInBounds_toArray, List.set_cons_zero, List.set_cons_succ]
        refine AnyE.take2 (i := 1) [8, 3, 2] (oi := { dst := some 69, op := Go.Op.load 3 (Go.Operand.tmp 68), type := 3, pos := "ref.go:252", after := #[{ on := 0, ground := Go.Ground.data }], guard := none }) (v := ?_) rfl (by kernel_rfl) (by kernel_rfl) (by kernel_rfl) (by kernel_rfl) (fun _ _ _ h => h) (Or.inl ⟨by rfl, ?_⟩) (by assumption) ?_
        rotate_left
        · (intro w0 hSw; (try dsimp only at hSw); go_split_ands; go_simp; with_reducible rfl)
        try simp only [Act.put, List.setIfInBounds_toArray, List.set_cons_zero, List.set_cons_succ]
        refine AnyE.take2 (i := 2) [8, 3] (oi := { dst := some 70, op := Go.Op.binOp Go.BinOp.eql 3 (Go.Operand.tmp 69) (Go.Operand.const (Go.Value.int Go.IntKind.i64 25)) 3, type := 4, pos := "ref.go:252", after := #[{ on := 1, ground := Go.Ground.data }], guard := none }) (v := ?_) rfl (by kernel_rfl) (by kernel_rfl) (by kernel_rfl) (by kernel_rfl) (fun _ _ _ h => h) (Or.inl ⟨by rfl, ?_⟩) (by assumption) ?_
        rotate_left
        · (intro w0 hSw; (try dsimp only at hSw); go_split_ands; go_simp; with_reducible rfl)
        try simp only [Act.put, List.setIfInBounds_toArray, List.set_cons_zero, List.set_cons_succ]
        refine AnyE.take2 (i := 3) [8] (oi := { dst := some 71, op := Go.Op.move (Go.Operand.tmp 70), type := 4, pos := "ref.go:252", after := #[{ on := 2, ground := Go.Ground.data }], guard := none }) (v := ?_) rfl (by kernel_rfl) (by kernel_rfl) (by kernel_rfl) (by kernel_rfl) (fun _ _ _ h => h) (Or.inl ⟨by rfl, ?_⟩) (by assumption) ?_
        rotate_left
        · (intro w0 hSw; (try dsimp only at hSw); go_split_ands; go_simp; with_reducible rfl)
        try simp only [Act.put, List.setIfInBounds_toArray, List.set_cons_zero, List.set_cons_succ]
        refine AnyE.take2 (i := 4) [8, 7, 6, 5] (oi := { dst := some 72, op := Go.Op.fieldAddr 141 (Go.Operand.tmp 12) 0, type := 0, pos := "ref.go:252", after := #[{ on := 3, ground := Go.Ground.guard }], guard := some (3, false) }) (v := ?_) rfl (by kernel_rfl) (by kernel_rfl) (by kernel_rfl) (by kernel_rfl) (fun _ _ _ h => h) (Or.inl ⟨by rfl, ?_⟩) (by assumption) ?_
        rotate_left
        · (intro w0 hSw; (try dsimp only at hSw); go_split_ands; go_simp; with_reducible rfl)
        try simp only [Act.put, List.setIfInBounds_toArray, List.set_cons_zero, List.set_cons_succ]
        refine AnyE.take2 (i := 5) [8, 7, 6] (oi := { dst := some 73, op := Go.Op.load 3 (Go.Operand.tmp 72), type := 3, pos := "ref.go:252", after := #[{ on := 4, ground := Go.Ground.data }, { on := 3, ground := Go.Ground.guard }], guard := some (3, false) }) (v := ?_) rfl (by kernel_rfl) (by kernel_rfl) (by kernel_rfl) (by kernel_rfl) (fun _ _ _ h => h) (Or.inl ⟨by rfl, ?_⟩) (by assumption) ?_
        rotate_left
        · (intro w0 hSw; (try dsimp only at hSw); go_split_ands; go_simp; with_reducible rfl)
        try simp only [Act.put, List.setIfInBounds_toArray, List.set_cons_zero, List.set_cons_succ]
        refine AnyE.take2 (i := 6) [8, 7] (oi := { dst := some 74, op := Go.Op.binOp Go.BinOp.eql 3 (Go.Operand.tmp 73) (Go.Operand.const (Go.Value.int Go.IntKind.i64 26)) 3, type := 4, pos := "ref.go:252", after := #[{ on := 5, ground := Go.Ground.data }, { on := 3, ground := Go.Ground.guard }], guard := some (3, false) }) (v := ?_) rfl (by kernel_rfl) (by kernel_rfl) (by kernel_rfl) (by kernel_rfl) (fun _ _ _ h => h) (Or.inl ⟨by rfl, ?_⟩) (by assumption) ?_
        rotate_left
        · (intro w0 hSw; (try dsimp only at hSw); go_split_ands; go_simp; with_reducible rfl)
        try simp only [Act.put, List.setIfInBounds_toArray, List.set_cons_zero, List.set_cons_succ]
        refine AnyE.take2 (i := 7) [8] (oi := { dst := some 75, op := Go.Op.pick (Go.Operand.tmp 71) (Go.Operand.const (Go.Value.bool true)) (Go.Operand.tmp 74), type := 4, pos := "ref.go:252", after := #[{ on := 3, ground := Go.Ground.data }, { on := 6, ground := Go.Ground.data }], guard := none }) (v := ?_) rfl (by kernel_rfl) (by kernel_rfl) (by kernel_rfl) (by kernel_rfl) (fun _ _ _ h => h) (Or.inl ⟨by rfl, ?_⟩) (by assumption) ?_
        rotate_left
        · (intro w0 hSw; (try dsimp only at hSw); go_split_ands; go_simp; with_reducible rfl)
        try simp only [Act.put, List.setIfInBounds_toArray, List.set_cons_zero, List.set_cons_succ]
        refine AnyE.take2 (i := 8) [] (oi := { dst := some 76, op := Go.Op.move (Go.Operand.tmp 75), type := 4, pos := "ref.go:252", after := #[{ on := 7, ground := Go.Ground.data }, { on := 3, ground := Go.Ground.chain }], guard := none }) (v := ?_) rfl (by kernel_rfl) (by kernel_rfl) (by kernel_rfl) (by kernel_rfl) (fun _ _ _ h => h) (Or.inl ⟨by rfl, ?_⟩) (by assumption) ?_
        rotate_left
        · (intro w0 hSw; (try dsimp only at hSw); go_split_ands; go_simp; with_reducible rfl)
        try simp only [Act.put, List.setIfInBounds_toArray, List.set_cons_zero, List.set_cons_succ]
        refine AnyE.take2 (i := 9) [18, 17] (oi := { dst := some 77, op := Go.Op.move (Go.Operand.tmp 8), type := 48, pos := "ref.go:252", after := #[{ on := 8, ground := Go.Ground.guard }], guard := some (8, true) }) (v := ?_) rfl (by kernel_rfl) (by kernel_rfl) (by kernel_rfl) (by kernel_rfl) (fun _ _ _ h => h) (Or.inl ⟨by rfl, ?_⟩) (by assumption) ?_
        rotate_left
        · (intro w0 hSw; (try dsimp only at hSw); go_split_ands; go_simp; with_reducible rfl)
        try simp only [Act.put, List.setIfInBounds_toArray, List.set_cons_zero, List.set_cons_succ]
        refine AnyE.take2 (i := 10) [18, 17, 16, 13, 12] (oi := { dst := some 78, op := Go.Op.move (Go.Operand.tmp 8), type := 48, pos := "ref.go:252", after := #[{ on := 8, ground := Go.Ground.guard }], guard := some (8, true) }) (v := ?_) rfl (by kernel_rfl) (by kernel_rfl) (by kernel_rfl) (by kernel_rfl) (fun _ _ _ h => h) (Or.inl ⟨by rfl, ?_⟩) (by assumption) ?_
        rotate_left
        · (intro w0 hSw; (try dsimp only at hSw); go_split_ands; go_simp; with_reducible rfl)
        try simp only [Act.put, List.setIfInBounds_toArray, List.set_cons_zero, List.set_cons_succ]
        refine AnyE.take2 (i := 11) [18, 17, 16, 13, 12] (oi := { dst := some 79, op := Go.Op.move (Go.Operand.tmp 11), type := 3, pos := "ref.go:252", after := #[{ on := 8, ground := Go.Ground.guard }], guard := some (8, true) }) (v := ?_) rfl (by kernel_rfl) (by kernel_rfl) (by kernel_rfl) (by kernel_rfl) (fun _ _ _ h => h) (Or.inl ⟨by rfl, ?_⟩) (by assumption) ?_
        rotate_left
        · (intro w0 hSw; (try dsimp only at hSw); go_split_ands; go_simp; with_reducible rfl)
        try simp only [Act.put, List.setIfInBounds_toArray, List.set_cons_zero, List.set_cons_succ]
        refine AnyE.take2 (i := 12) [18, 17, 16, 13] (oi := { dst := some 80, op := Go.Op.indexAddr 48 (Go.Operand.tmp 78) (Go.Operand.tmp 79), type := 0, pos := "ref.go:252", after := #[{ on := 10, ground := Go.Ground.data }, { on := 11, ground := Go.Ground.data }, { on := 8, ground := Go.Ground.guard }], guard := some (8, true) }) (v := ?_) rfl (by kernel_rfl) (by kernel_rfl) (by kernel_rfl) (by kernel_rfl) (fun _ _ _ h => h) (Or.inl ⟨by rfl, ?_⟩) (by assumption) ?_
        rotate_left
        · (intro w0 hSw; (try dsimp only at hSw); go_split_ands; go_simp; with_reducible rfl)
        try simp only [Act.put, List.setIfInBounds_toArray, List.set_cons_zero, List.set_cons_succ]
        refine AnyE.take2 (i := 13) [18, 17, 16] (oi := { dst := some 81, op := Go.Op.load 3 (Go.Operand.tmp 80), type := 3, pos := "ref.go:252", after := #[{ on := 12, ground := Go.Ground.data }, { on := 8, ground := Go.Ground.guard }], guard := some (8, true) }) (v := ?_) rfl (by kernel_rfl) (by kernel_rfl) (by kernel_rfl) (by kernel_rfl) (fun _ _ _ h => h) (Or.inl ⟨by rfl, ?_⟩) (by assumption) ?_
        rotate_left
        · (intro w0 hSw; (try dsimp only at hSw); go_split_ands; go_simp; with_reducible rfl)
        try simp only [Act.put, List.setIfInBounds_toArray, List.set_cons_zero, List.set_cons_succ]
        refine AnyE.take2 (i := 14) [18, 17, 16, 15] (oi := { dst := some 82, op := Go.Op.fieldAddr 141 (Go.Operand.tmp 12) 1, type := 0, pos := "ref.go:252", after := #[{ on := 8, ground := Go.Ground.guard }], guard := some (8, true) }) (v := ?_) rfl (by kernel_rfl) (by kernel_rfl) (by kernel_rfl) (by kernel_rfl) (fun _ _ _ h => h) (Or.inl ⟨by rfl, ?_⟩) (by assumption) ?_
        rotate_left
        · (intro w0 hSw; (try dsimp only at hSw); go_split_ands; go_simp; with_reducible rfl)
        try simp only [Act.put, List.setIfInBounds_toArray, List.set_cons_zero, List.set_cons_succ]
        refine AnyE.take2 (i := 15) [18, 17, 16] (oi := { dst := some 83, op := Go.Op.load 3 (Go.Operand.tmp 82), type := 3, pos := "ref.go:252", after := #[{ on := 14, ground := Go.Ground.data }, { on := 8, ground := Go.Ground.guard }], guard := some (8, true) }) (v := ?_) rfl (by kernel_rfl) (by kernel_rfl) (by kernel_rfl) (by kernel_rfl) (fun _ _ _ h => h) (Or.inl ⟨by rfl, ?_⟩) (by assumption) ?_
        rotate_left
        · (intro w0 hSw; (try dsimp only at hSw); go_split_ands; go_simp; with_reducible rfl)
        try simp only [Act.put, List.setIfInBounds_toArray, List.set_cons_zero, List.set_cons_succ]
        refine AnyE.take2 (i := 16) [18, 17] (oi := { dst := some 84, op := Go.Op.binOp Go.BinOp.add 3 (Go.Operand.tmp 81) (Go.Operand.tmp 83) 3, type := 3, pos := "ref.go:252", after := #[{ on := 13, ground := Go.Ground.data }, { on := 15, ground := Go.Ground.data }, { on := 8, ground := Go.Ground.guard }], guard := some (8, true) }) (v := ?_) rfl (by kernel_rfl) (by kernel_rfl) (by kernel_rfl) (by kernel_rfl) (fun _ _ _ h => h) (Or.inl ⟨by rfl, ?_⟩) (by assumption) ?_
        rotate_left
        · (intro w0 hSw; (try dsimp only at hSw); go_split_ands; go_simp; with_reducible rfl)
        try simp only [Act.put, List.setIfInBounds_toArray, List.set_cons_zero, List.set_cons_succ]
        refine AnyE.ready (rs := [17]) (by kernel_rfl) (by simp) ?_
        refine AllE.cons (o := { dst := some 85, op := Go.Op.call { callee := Go.Callee.value (Go.Operand.func 91), args := #[Go.Operand.tmp 77, Go.Operand.tmp 84], argTypes := #[48, 3] }, type := 4, pos := "ref.go:252", after := #[{ on := 9, ground := Go.Ground.data }, { on := 16, ground := Go.Ground.data }, { on := 8, ground := Go.Ground.chain }, { on := 8, ground := Go.Ground.guard }], guard := some (8, true) }) rfl (fun KK hKK => ?_) AllE.nil
        go_simp
        go_at_call 91
        refine (HBgk.out _ (HB4.out.1.trans ((Below.refl _ _).drew.mono HB4.out.1.size))).mono ?_
        rintro e W5 ⟨rfl, hb5⟩
        have HB5 := Lib.hid ((Below.refl W4.heap.size W4).drew.trans hb5)
        clear hb5
        refine hKK.out _ _ (HX.out _ HB5.out) (fun hHeld => ?_)
        clear hKK KK
        try simp only [Act.put, List.setIfInBounds_toArray, List.set_cons_zero, List.set_cons_succ]
        refine AnyE.take2 (i := 18) [] (oi := { dst := some 86, op := Go.Op.unOp Go.UnOp.not 4 (Go.Operand.tmp 85), type := 4, pos := "ref.go:252", after := #[{ on := 17, ground := Go.Ground.data }, { on := 8, ground := Go.Ground.guard }], guard := some (8, true) }) (v := ?_) rfl (by kernel_rfl) (by kernel_rfl) (by kernel_rfl) (by kernel_rfl) (fun _ _ _ h => h) (Or.inl ⟨by rfl, ?_⟩) (by assumption) ?_
        rotate_left
        · (intro w0 hSw; (try dsimp only at hSw); go_split_ands; go_simp; with_reducible rfl)
        try simp only [Act.put, List.setIfInBounds_toArray, List.set_cons_zero, List.set_cons_succ]
        refine AnyE.ready (rs := [19]) (by kernel_rfl) (by simp) ?_
        refine AllE.last (o := { dst := some 87, op := Go.Op.pick (Go.Operand.tmp 76) (Go.Operand.tmp 86) (Go.Operand.const (Go.Value.bool false)), type := 4, pos := "ref.go:252", after := #[{ on := 8, ground := Go.Ground.data }, { on := 18, ground := Go.Ground.data }], guard := none }) rfl (by kernel_rfl) (fun KK hKK => ?_)
        go_simp
        refine hKK.out _ _ ?_
        clear hKK KK
        try simp only [Act.put, List.setIfInBounds_toArray, List.set_cons_zero, List.set_cons_succ]
        have y5 := (HX.out _ HB5.out).2.2
        cases bg with
        | true =>
          have HO : Hid (chkB P m n D (inL L) k = 0) := Lib.hid (HOv.out.trans (if_neg (fun q => q.2 (of_decide_eq_true HBv.out))))
          go_wp2
          exact ⟨⟨z + 1, by omega, by go_num, Lib.hid (HB4.out.1.trans (HB5.out.mono HB4.out.1.size)), Lib.hid fun j hjz => by
            by_cases hjk : j = z
            · subst hjk; rw [HKz.out]; exact HO.out
            · exact HZ.out j (by omega)⟩, by simp [intOf]; omega⟩
        | false =>
          have HF : Hid (flowR P m = (k, 23)) := Lib.hid (by
            have h1 : chkB P m n D (inL L) k = 23 := HOv.out.trans (if_pos ⟨HJb.out, of_decide_eq_false HBv.out⟩)
            have h2 := HCz.out (by rw [h1]; decide) HZ.out
            rw [h1] at h2
            exact h2)
          go_wp2_with fail
          go_quiet (fail)
          go_wp2
          go_ret3
          exact HBad.out k 23 _ HF.out (by decide) (HB.out.2.trans ((below_drewN (HB4.out.1.trans (HB5.out.mono HB4.out.1.size)) _).mono HB.out.2.size))
    · obtain rfl : z = LL := by omega
      have HCr := Lib.hid (HChz.out HZ.out)
      have dz : decide ((z : Int) < (z : Int)) = false := decide_eq_false (by omega)
      have HBw : Hid (Bx wr w.heap.size #[.slice A.pa P.np A.pc, .slice A.ca P.nc A.cc, .slice (some ⟨bm, om, none⟩) P.nm A.mc] 26 ∧ Below w.heap.size w wr ∧ w.heap.size < wr.heap.size) := Lib.hid ⟨HB.out.1.below HW.out, HB.out.2.trans (HW.out.mono HB.out.2.size), by have := HW.out.size; omega⟩
      have HMk := Lib.hid (And.intro (make72 n (by omega)) (make4 n (by omega)))
      clear HChk HChz HBg HRd HOp HRow HmemL HZ hzl
      go_upto_region 15 with fail
      go_cut [14] from 92 to 102 (fun s14 wx => St0 P A m w s14 wx ∧ Bx wx w.heap.size #[.slice A.pa P.np A.pc, .slice A.ca P.nc A.cc, .slice (some ⟨bm, om, none⟩) P.nm A.mc] 26)
      case first =>
        have HHO : Hid (∀ V, Bx V w.heap.size #[.slice A.pa P.np A.pc, .slice A.ca P.nc A.cc, .slice (some ⟨bm, om, none⟩) P.nm A.mc] 26 → V.cell? ⟨w.heap.size, 0, none⟩ = some (.slice A.pa P.np A.pc)) := Lib.hid fun V h => h.cell 0
        obtain ⟨mk_0, mk_1⟩ := HMk.out
        have hws0 : w.heap.size < wr.drew.heap.size := HBw.out.2.2
        have HB' : Hid (Bx wr.drew w.heap.size #[.slice A.pa P.np A.pc, .slice A.ca P.nc A.cc, .slice (some ⟨bm, om, none⟩) P.nm A.mc] 26 ∧ Below w.heap.size w wr.drew) := Lib.hid ⟨HBw.out.1.below (Below.refl _ _).drew, HBw.out.2.1.drew⟩
        clear HB HBw HMk
        have HB := HB'
        clear HB'
        refine region_e 11 (fun w' => w'.cell? ⟨w.heap.size, 0, none⟩ = some (.slice A.pa P.np A.pc)) (by kernel_rfl) (HHO.out _ HB.out.1) (fun hHeld => ?_)
        generalize wr.drew = V0 at hHeld HB hws0 ⊢
        refine AnyE.take2 (i := 0) [] (oi := { dst := some 92, op := Go.Op.move (Go.Operand.tmp 7), type := 29, pos := "ref.go:256", after := #[], guard := none }) (v := ?_) rfl (by kernel_rfl) (by kernel_rfl) (by kernel_rfl) (by kernel_rfl) (fun _ _ _ h => h) (Or.inl ⟨by rfl, ?_⟩) (by assumption) ?_
        rotate_left
        · (intro w0 hSw; (try dsimp only at hSw); go_split_ands; go_simp; with_reducible rfl)
        try simp only [Act.put, List.setIfInBounds_toArray, List.set_cons_zero, List.set_cons_succ]
        refine AnyE.take2 (i := 1) [] (oi := { dst := some 93, op := Go.Op.call { callee := Go.Callee.builtin Go.Builtin.len, args := #[Go.Operand.tmp 92], argTypes := #[29] }, type := 3, pos := "ref.go:256", after := #[{ on := 0, ground := Go.Ground.data }], guard := none }) (v := ?_) rfl (by kernel_rfl) (by kernel_rfl) (by kernel_rfl) (by kernel_rfl) (fun _ _ _ h => h) (Or.inl ⟨by rfl, ?_⟩) (by assumption) ?_
        rotate_left
        · (intro w0 hSw; (try dsimp only at hSw); go_split_ands; go_simp; with_reducible rfl)
        try simp only [Act.put, List.setIfInBounds_toArray, List.set_cons_zero, List.set_cons_succ]
        refine AnyE.take2 (i := 3) [] (oi := { dst := some 95, op := Go.Op.move (Go.Operand.tmp 7), type := 29, pos := "ref.go:256", after := #[], guard := none }) (v := ?_) rfl (by kernel_rfl) (by kernel_rfl) (by kernel_rfl) (by kernel_rfl) (fun _ _ _ h => h) (Or.inl ⟨by rfl, ?_⟩) (by assumption) ?_
        rotate_left
        · (intro w0 hSw; (try dsimp only at hSw); go_split_ands; go_simp; with_reducible rfl)
        try simp only [Act.put, List.setIfInBounds_toArray, List.set_cons_zero, List.set_cons_succ]
        refine AnyE.take2 (i := 4) [] (oi := { dst := some 96, op := Go.Op.call { callee := Go.Callee.builtin Go.Builtin.len, args := #[Go.Operand.tmp 95], argTypes := #[29] }, type := 3, pos := "ref.go:256", after := #[{ on := 3, ground := Go.Ground.data }], guard := none }) (v := ?_) rfl (by kernel_rfl) (by kernel_rfl) (by kernel_rfl) (by kernel_rfl) (fun _ _ _ h => h) (Or.inl ⟨by rfl, ?_⟩) (by assumption) ?_
        rotate_left
        · (intro w0 hSw; (try dsimp only at hSw); go_split_ands; go_simp; with_reducible rfl)
        try simp only [Act.put, List.setIfInBounds_toArray, List.set_cons_zero, List.set_cons_succ]
        refine AnyE.take2 (i := 6) [] (oi := { dst := some 98, op := Go.Op.move (Go.Operand.tmp 7), type := 29, pos := "ref.go:256", after := #[], guard := none }) (v := ?_) rfl (by kernel_rfl) (by kernel_rfl) (by kernel_rfl) (by kernel_rfl) (fun _ _ _ h => h) (Or.inl ⟨by rfl, ?_⟩) (by assumption) ?_
        rotate_left
        · (intro w0 hSw; (try dsimp only at hSw); go_split_ands; go_simp; with_reducible rfl)
        try simp only [Act.put, List.setIfInBounds_toArray, List.set_cons_zero, List.set_cons_succ]
        refine AnyE.take2 (i := 7) [] (oi := { dst := some 99, op := Go.Op.call { callee := Go.Callee.builtin Go.Builtin.len, args := #[Go.Operand.tmp 98], argTypes := #[29] }, type := 3, pos := "ref.go:256", after := #[{ on := 6, ground := Go.Ground.data }], guard := none }) (v := ?_) rfl (by kernel_rfl) (by kernel_rfl) (by kernel_rfl) (by kernel_rfl) (fun _ _ _ h => h) (Or.inl ⟨by rfl, ?_⟩) (by assumption) ?_
        rotate_left
        · (intro w0 hSw; (try dsimp only at hSw); go_split_ands; go_simp; with_reducible rfl)
        try simp only [Act.put, List.setIfInBounds_toArray, List.set_cons_zero, List.set_cons_succ]
        refine AnyE.ready (rs := [2, 5, 8]) (by kernel_rfl) (by simp) ?_
        refine AllE.cons (o := { dst := some 94, op := Go.Op.makeSlice 66 (Go.Operand.tmp 93) (Go.Operand.tmp 93), type := 66, pos := "ref.go:256", after := #[{ on := 1, ground := Go.Ground.data }, { on := 1, ground := Go.Ground.data }], guard := none }) rfl (fun KK hKK => ?_) (AllE.cons (o := { dst := some 97, op := Go.Op.makeSlice 63 (Go.Operand.tmp 96) (Go.Operand.tmp 96), type := 63, pos := "ref.go:256", after := #[{ on := 4, ground := Go.Ground.data }, { on := 4, ground := Go.Ground.data }], guard := none }) rfl (fun KK hKK => ?_) (AllE.cons (o := { dst := some 100, op := Go.Op.makeSlice 63 (Go.Operand.tmp 99) (Go.Operand.tmp 99), type := 63, pos := "ref.go:256", after := #[{ on := 7, ground := Go.Ground.data }, { on := 7, ground := Go.Ground.data }], guard := none }) rfl (fun KK hKK => ?_) AllE.nil))
        · go_simp
          obtain ⟨V1, rs, hV, hbq, hMk, hBel, hsz1⟩ := nk0 n V0
          rw [← hV, ← hbq]
          have Hrs := Lib.hid hMk
          have HBel := Lib.hid hBel
          replace HB := Lib.hid (And.intro (HB.out.1.below HBel.out) (HB.out.2.trans (HBel.out.mono HB.out.2.size)))
          have hlo1 : rs = V0.heap.size := hbq
          have hge1 : w.heap.size < rs ∧ rs < V1.heap.size := by omega
          have hws1 : w.heap.size < V1.heap.size := by omega
          clear hV hbq hMk hBel HBel hlo1 hsz1
          refine hKK.out _ _ (HHO.out _ HB.out.1) (fun hHeld => ?_)
          clear hKK KK
          try simp only [Act.put, List.setIfInBounds_toArray, List.set_cons_zero, List.set_cons_succ]
          refine AnyE.ready (rs := [5, 8]) (by kernel_rfl) (by simp) ?_
          refine AllE.cons (o := { dst := some 97, op := Go.Op.makeSlice 63 (Go.Operand.tmp 96) (Go.Operand.tmp 96), type := 63, pos := "ref.go:256", after := #[{ on := 4, ground := Go.Ground.data }, { on := 4, ground := Go.Ground.data }], guard := none }) rfl (fun KK hKK => ?_) (AllE.cons (o := { dst := some 100, op := Go.Op.makeSlice 63 (Go.Operand.tmp 99) (Go.Operand.tmp 99), type := 63, pos := "ref.go:256", after := #[{ on := 7, ground := Go.Ground.data }, { on := 7, ground := Go.Ground.data }], guard := none }) rfl (fun KK hKK => ?_) AllE.nil)
          · go_simp
            obtain ⟨V2, rh, hV, hbq, hMk, hBel, hsz2⟩ := nk1 n V1
            rw [← hV, ← hbq]
            have Hrh := Lib.hid hMk
            have HBel := Lib.hid hBel
            replace Hrs := Lib.hid (Hrs.out.below HBel.out)
            replace HB := Lib.hid (And.intro (HB.out.1.below HBel.out) (HB.out.2.trans (HBel.out.mono HB.out.2.size)))
            have hlo2 : rh = V1.heap.size := hbq
            have hge2 : w.heap.size < rh ∧ rh < V2.heap.size ∧ rs < rh := by omega
            have hws2 : w.heap.size < V2.heap.size := by omega
            clear hV hbq hMk hBel HBel hlo2 hsz2
            refine hKK.out _ _ (HHO.out _ HB.out.1) (fun hHeld => ?_)
            clear hKK KK
            try simp only [Act.put, List.setIfInBounds_toArray, List.set_cons_zero, List.set_cons_succ]
            refine AnyE.ready (rs := [8]) (by kernel_rfl) (by simp) ?_
            refine AllE.cons (o := { dst := some 100, op := Go.Op.makeSlice 63 (Go.Operand.tmp 99) (Go.Operand.tmp 99), type := 63, pos := "ref.go:256", after := #[{ on := 7, ground := Go.Ground.data }, { on := 7, ground := Go.Ground.data }], guard := none }) rfl (fun KK hKK => ?_) AllE.nil
            go_simp
            obtain ⟨V3, rg, hV, hbq, hMk, hBel, hsz3⟩ := nk1 n V2
            rw [← hV, ← hbq]
            have Hrg := Lib.hid hMk
            have HBel := Lib.hid hBel
            replace Hrs := Lib.hid (Hrs.out.below HBel.out)
            replace Hrh := Lib.hid (Hrh.out.below HBel.out)
            replace HB := Lib.hid (And.intro (HB.out.1.below HBel.out) (HB.out.2.trans (HBel.out.mono HB.out.2.size)))
            have hlo3 : rg = V2.heap.size := hbq
            have hge3 : w.heap.size < rg ∧ rg < V3.heap.size ∧ rs < rg ∧ rh < rg := by omega
            have hws3 : w.heap.size < V3.heap.size := by omega
            clear hV hbq hMk hBel HBel hlo3 hsz3
            refine hKK.out _ _ (HHO.out _ HB.out.1) (fun hHeld => ?_)
            clear hKK KK
            try simp only [Act.put, List.setIfInBounds_toArray, List.set_cons_zero, List.set_cons_succ]
            refine AnyE.take2 (i := 9) [] (oi := { dst := some 101, op := Go.Op.build 122 #[(0, Go.Operand.tmp 94), (1, Go.Operand.tmp 97), (2, Go.Operand.tmp 100)], type := 122, pos := "ref.go:256", after := #[{ on := 2, ground := Go.Ground.data }, { on := 5, ground := Go.Ground.data }, { on := 8, ground := Go.Ground.data }], guard := none }) (v := ?_) rfl (by kernel_rfl) (by kernel_rfl) (by kernel_rfl) (by kernel_rfl) (fun _ _ _ h => h) (Or.inl ⟨by rfl, ?_⟩) (by assumption) ?_
            rotate_left
            · (intro w0 hSw; (try dsimp only at hSw); go_split_ands; go_simp; with_reducible rfl)
            try simp only [Act.put, List.setIfInBounds_toArray, List.set_cons_zero, List.set_cons_succ]
            refine AnyE.ready (rs := [10]) (by kernel_rfl) (by simp) ?_
            refine AllE.cons (o := { dst := some 102, op := Go.Op.box 122 (Go.Operand.tmp 101), type := 115, pos := "ref.go:256", after := #[{ on := 9, ground := Go.Ground.data }], guard := none }) rfl (fun KK hKK => ?_) AllE.nil
            go_simp
            have HQ := Lib.hid (HS0.out V3 rs rh rg Hrs.out Hrh.out Hrg.out HB.out.2 (by omega) (by omega) (by omega) (by omega) (by omega))
            refine hKK.out _ _ (HHO.out _ (HB.out.1.alloc _)) (fun hHeld => ?_)
            clear hKK KK
            try simp only [Act.put, List.setIfInBounds_toArray, List.set_cons_zero, List.set_cons_succ]
            refine AnyE.ready (rs := [11]) (by kernel_rfl) (by simp) ?_
            refine AllE.last (o := { dst := some 14, op := Go.Op.assign (Go.Operand.tmp 102), type := 115, pos := "ref.go:256", after := #[{ on := 10, ground := Go.Ground.data }, { on := 0, ground := Go.Ground.phase }, { on := 1, ground := Go.Ground.phase }, { on := 2, ground := Go.Ground.phase }, { on := 3, ground := Go.Ground.phase }, { on := 4, ground := Go.Ground.phase }, { on := 5, ground := Go.Ground.phase }, { on := 6, ground := Go.Ground.phase }, { on := 7, ground := Go.Ground.phase }, { on := 8, ground := Go.Ground.phase }, { on := 9, ground := Go.Ground.phase }, { on := 10, ground := Go.Ground.phase }], guard := none }) rfl (by kernel_rfl) (fun KK hKK => ?_)
            go_simp
            refine hKK.out _ _ ?_
            clear hKK KK
            try simp only [Act.put, List.setIfInBounds_toArray, List.set_cons_zero, List.set_cons_succ]
            go_wp2_with fail
            go_meet
            case rel => exact ⟨HQ.out, HB.out.1.alloc _⟩
          · go_simp
            obtain ⟨V2, rg, hV, hbq, hMk, hBel, hsz2⟩ := nk1 n V1
            rw [← hV, ← hbq]
            have Hrg := Lib.hid hMk
            have HBel := Lib.hid hBel
            replace Hrs := Lib.hid (Hrs.out.below HBel.out)
            replace HB := Lib.hid (And.intro (HB.out.1.below HBel.out) (HB.out.2.trans (HBel.out.mono HB.out.2.size)))
            have hlo2 : rg = V1.heap.size := hbq
            have hge2 : w.heap.size < rg ∧ rg < V2.heap.size ∧ rs < rg := by omega
            have hws2 : w.heap.size < V2.heap.size := by omega
            clear hV hbq hMk hBel HBel hlo2 hsz2
            refine hKK.out _ _ (HHO.out _ HB.out.1) (fun hHeld => ?_)
            clear hKK KK
            try simp only [Act.put, List.setIfInBounds_toArray, List.set_cons_zero, List.set_cons_succ]
            refine AnyE.ready (rs := [5]) (by kernel_rfl) (by simp) ?_
            refine AllE.cons (o := { dst := some 97, op := Go.Op.makeSlice 63 (Go.Operand.tmp 96) (Go.Operand.tmp 96), type := 63, pos := "ref.go:256", after := #[{ on := 4, ground := Go.Ground.data }, { on := 4, ground := Go.Ground.data }], guard := none }) rfl (fun KK hKK => ?_) AllE.nil
            go_simp
            obtain ⟨V3, rh, hV, hbq, hMk, hBel, hsz3⟩ := nk1 n V2
            rw [← hV, ← hbq]
            have Hrh := Lib.hid hMk
            have HBel := Lib.hid hBel
            replace Hrs := Lib.hid (Hrs.out.below HBel.out)
            replace Hrg := Lib.hid (Hrg.out.below HBel.out)
            replace HB := Lib.hid (And.intro (HB.out.1.below HBel.out) (HB.out.2.trans (HBel.out.mono HB.out.2.size)))
            have hlo3 : rh = V2.heap.size := hbq
            have hge3 : w.heap.size < rh ∧ rh < V3.heap.size ∧ rs < rh ∧ rg < rh := by omega
            have hws3 : w.heap.size < V3.heap.size := by omega
            clear hV hbq hMk hBel HBel hlo3 hsz3
            refine hKK.out _ _ (HHO.out _ HB.out.1) (fun hHeld => ?_)
            clear hKK KK
            try simp only [Act.put, List.setIfInBounds_toArray, List.set_cons_zero, List.set_cons_succ]
            refine AnyE.take2 (i := 9) [] (oi := { dst := some 101, op := Go.Op.build 122 #[(0, Go.Operand.tmp 94), (1, Go.Operand.tmp 97), (2, Go.Operand.tmp 100)], type := 122, pos := "ref.go:256", after := #[{ on := 2, ground := Go.Ground.data }, { on := 5, ground := Go.Ground.data }, { on := 8, ground := Go.Ground.data }], guard := none }) (v := ?_) rfl (by kernel_rfl) (by kernel_rfl) (by kernel_rfl) (by kernel_rfl) (fun _ _ _ h => h) (Or.inl ⟨by rfl, ?_⟩) (by assumption) ?_
            rotate_left
            · (intro w0 hSw; (try dsimp only at hSw); go_split_ands; go_simp; with_reducible rfl)
            try simp only [Act.put, List.setIfInBounds_toArray, List.set_cons_zero, List.set_cons_succ]
            refine AnyE.ready (rs := [10]) (by kernel_rfl) (by simp) ?_
            refine AllE.cons (o := { dst := some 102, op := Go.Op.box 122 (Go.Operand.tmp 101), type := 115, pos := "ref.go:256", after := #[{ on := 9, ground := Go.Ground.data }], guard := none }) rfl (fun KK hKK => ?_) AllE.nil
            go_simp
            have HQ := Lib.hid (HS0.out V3 rs rh rg Hrs.out Hrh.out Hrg.out HB.out.2 (by omega) (by omega) (by omega) (by omega) (by omega))
            refine hKK.out _ _ (HHO.out _ (HB.out.1.alloc _)) (fun hHeld => ?_)
            clear hKK KK
            try simp only [Act.put, List.setIfInBounds_toArray, List.set_cons_zero, List.set_cons_succ]
            refine AnyE.ready (rs := [11]) (by kernel_rfl) (by simp) ?_
            refine AllE.last (o := { dst := some 14, op := Go.Op.assign (Go.Operand.tmp 102), type := 115, pos := "ref.go:256", after := #[{ on := 10, ground := Go.Ground.data }, { on := 0, ground := Go.Ground.phase }, { on := 1, ground := Go.Ground.phase }, { on := 2, ground := Go.Ground.phase }, { on := 3, ground := Go.Ground.phase }, { on := 4, ground := Go.Ground.phase }, { on := 5, ground := Go.Ground.phase }, { on := 6, ground := Go.Ground.phase }, { on := 7, ground := Go.Ground.phase }, { on := 8, ground := Go.Ground.phase }, { on := 9, ground := Go.Ground.phase }, { on := 10, ground := Go.Ground.phase }], guard := none }) rfl (by kernel_rfl) (fun KK hKK => ?_)
            go_simp
            refine hKK.out _ _ ?_
            clear hKK KK
            try simp only [Act.put, List.setIfInBounds_toArray, List.set_cons_zero, List.set_cons_succ]
            go_wp2_with fail
            go_meet
            case rel => exact ⟨HQ.out, HB.out.1.alloc _⟩
        · go_simp
          obtain ⟨V1, rh, hV, hbq, hMk, hBel, hsz1⟩ := nk1 n V0
          rw [← hV, ← hbq]
          have Hrh := Lib.hid hMk
          have HBel := Lib.hid hBel
          replace HB := Lib.hid (And.intro (HB.out.1.below HBel.out) (HB.out.2.trans (HBel.out.mono HB.out.2.size)))
          have hlo1 : rh = V0.heap.size := hbq
          have hge1 : w.heap.size < rh ∧ rh < V1.heap.size := by omega
          have hws1 : w.heap.size < V1.heap.size := by omega
          clear hV hbq hMk hBel HBel hlo1 hsz1
          refine hKK.out _ _ (HHO.out _ HB.out.1) (fun hHeld => ?_)
          clear hKK KK
          try simp only [Act.put, List.setIfInBounds_toArray, List.set_cons_zero, List.set_cons_succ]
          refine AnyE.ready (rs := [2, 8]) (by kernel_rfl) (by simp) ?_
          refine AllE.cons (o := { dst := some 94, op := Go.Op.makeSlice 66 (Go.Operand.tmp 93) (Go.Operand.tmp 93), type := 66, pos := "ref.go:256", after := #[{ on := 1, ground := Go.Ground.data }, { on := 1, ground := Go.Ground.data }], guard := none }) rfl (fun KK hKK => ?_) (AllE.cons (o := { dst := some 100, op := Go.Op.makeSlice 63 (Go.Operand.tmp 99) (Go.Operand.tmp 99), type := 63, pos := "ref.go:256", after := #[{ on := 7, ground := Go.Ground.data }, { on := 7, ground := Go.Ground.data }], guard := none }) rfl (fun KK hKK => ?_) AllE.nil)
          · go_simp
            obtain ⟨V2, rs, hV, hbq, hMk, hBel, hsz2⟩ := nk0 n V1
            rw [← hV, ← hbq]
            have Hrs := Lib.hid hMk
            have HBel := Lib.hid hBel
            replace Hrh := Lib.hid (Hrh.out.below HBel.out)
            replace HB := Lib.hid (And.intro (HB.out.1.below HBel.out) (HB.out.2.trans (HBel.out.mono HB.out.2.size)))
            have hlo2 : rs = V1.heap.size := hbq
            have hge2 : w.heap.size < rs ∧ rs < V2.heap.size ∧ rh < rs := by omega
            have hws2 : w.heap.size < V2.heap.size := by omega
            clear hV hbq hMk hBel HBel hlo2 hsz2
            refine hKK.out _ _ (HHO.out _ HB.out.1) (fun hHeld => ?_)
            clear hKK KK
            try simp only [Act.put, List.setIfInBounds_toArray, List.set_cons_zero, List.set_cons_succ]
            refine AnyE.ready (rs := [8]) (by kernel_rfl) (by simp) ?_
            refine AllE.cons (o := { dst := some 100, op := Go.Op.makeSlice 63 (Go.Operand.tmp 99) (Go.Operand.tmp 99), type := 63, pos := "ref.go:256", after := #[{ on := 7, ground := Go.Ground.data }, { on := 7, ground := Go.Ground.data }], guard := none }) rfl (fun KK hKK => ?_) AllE.nil
            go_simp
            obtain ⟨V3, rg, hV, hbq, hMk, hBel, hsz3⟩ := nk1 n V2
            rw [← hV, ← hbq]
            have Hrg := Lib.hid hMk
            have HBel := Lib.hid hBel
            replace Hrh := Lib.hid (Hrh.out.below HBel.out)
            replace Hrs := Lib.hid (Hrs.out.below HBel.out)
            replace HB := Lib.hid (And.intro (HB.out.1.below HBel.out) (HB.out.2.trans (HBel.out.mono HB.out.2.size)))
            have hlo3 : rg = V2.heap.size := hbq
            have hge3 : w.heap.size < rg ∧ rg < V3.heap.size ∧ rh < rg ∧ rs < rg := by omega
            have hws3 : w.heap.size < V3.heap.size := by omega
            clear hV hbq hMk hBel HBel hlo3 hsz3
            refine hKK.out _ _ (HHO.out _ HB.out.1) (fun hHeld => ?_)
            clear hKK KK
            try simp only [Act.put, List.setIfInBounds_toArray, List.set_cons_zero, List.set_cons_succ]
            refine AnyE.take2 (i := 9) [] (oi := { dst := some 101, op := Go.Op.build 122 #[(0, Go.Operand.tmp 94), (1, Go.Operand.tmp 97), (2, Go.Operand.tmp 100)], type := 122, pos := "ref.go:256", after := #[{ on := 2, ground := Go.Ground.data }, { on := 5, ground := Go.Ground.data }, { on := 8, ground := Go.Ground.data }], guard := none }) (v := ?_) rfl (by kernel_rfl) (by kernel_rfl) (by kernel_rfl) (by kernel_rfl) (fun _ _ _ h => h) (Or.inl ⟨by rfl, ?_⟩) (by assumption) ?_
            rotate_left
            · (intro w0 hSw; (try dsimp only at hSw); go_split_ands; go_simp; with_reducible rfl)
            try simp only [Act.put, List.setIfInBounds_toArray, List.set_cons_zero, List.set_cons_succ]
            refine AnyE.ready (rs := [10]) (by kernel_rfl) (by simp) ?_
            refine AllE.cons (o := { dst := some 102, op := Go.Op.box 122 (Go.Operand.tmp 101), type := 115, pos := "ref.go:256", after := #[{ on := 9, ground := Go.Ground.data }], guard := none }) rfl (fun KK hKK => ?_) AllE.nil
            go_simp
            have HQ := Lib.hid (HS0.out V3 rs rh rg Hrs.out Hrh.out Hrg.out HB.out.2 (by omega) (by omega) (by omega) (by omega) (by omega))
            refine hKK.out _ _ (HHO.out _ (HB.out.1.alloc _)) (fun hHeld => ?_)
            clear hKK KK
            try simp only [Act.put, List.setIfInBounds_toArray, List.set_cons_zero, List.set_cons_succ]
            refine AnyE.ready (rs := [11]) (by kernel_rfl) (by simp) ?_
            refine AllE.last (o := { dst := some 14, op := Go.Op.assign (Go.Operand.tmp 102), type := 115, pos := "ref.go:256", after := #[{ on := 10, ground := Go.Ground.data }, { on := 0, ground := Go.Ground.phase }, { on := 1, ground := Go.Ground.phase }, { on := 2, ground := Go.Ground.phase }, { on := 3, ground := Go.Ground.phase }, { on := 4, ground := Go.Ground.phase }, { on := 5, ground := Go.Ground.phase }, { on := 6, ground := Go.Ground.phase }, { on := 7, ground := Go.Ground.phase }, { on := 8, ground := Go.Ground.phase }, { on := 9, ground := Go.Ground.phase }, { on := 10, ground := Go.Ground.phase }], guard := none }) rfl (by kernel_rfl) (fun KK hKK => ?_)
            go_simp
            refine hKK.out _ _ ?_
            clear hKK KK
            try simp only [Act.put, List.setIfInBounds_toArray, List.set_cons_zero, List.set_cons_succ]
            go_wp2_with fail
            go_meet
            case rel => exact ⟨HQ.out, HB.out.1.alloc _⟩
          · go_simp
            obtain ⟨V2, rg, hV, hbq, hMk, hBel, hsz2⟩ := nk1 n V1
            rw [← hV, ← hbq]
            have Hrg := Lib.hid hMk
            have HBel := Lib.hid hBel
            replace Hrh := Lib.hid (Hrh.out.below HBel.out)
            replace HB := Lib.hid (And.intro (HB.out.1.below HBel.out) (HB.out.2.trans (HBel.out.mono HB.out.2.size)))
            have hlo2 : rg = V1.heap.size := hbq
            have hge2 : w.heap.size < rg ∧ rg < V2.heap.size ∧ rh < rg := by omega
            have hws2 : w.heap.size < V2.heap.size := by omega
            clear hV hbq hMk hBel HBel hlo2 hsz2
            refine hKK.out _ _ (HHO.out _ HB.out.1) (fun hHeld => ?_)
            clear hKK KK
            try simp only [Act.put, List.setIfInBounds_toArray, List.set_cons_zero, List.set_cons_succ]
            refine AnyE.ready (rs := [2]) (by kernel_rfl) (by simp) ?_
            refine AllE.cons (o := { dst := some 94, op := Go.Op.makeSlice 66 (Go.Operand.tmp 93) (Go.Operand.tmp 93), type := 66, pos := "ref.go:256", after := #[{ on := 1, ground := Go.Ground.data }, { on := 1, ground := Go.Ground.data }], guard := none }) rfl (fun KK hKK => ?_) AllE.nil
            go_simp
            obtain ⟨V3, rs, hV, hbq, hMk, hBel, hsz3⟩ := nk0 n V2
            rw [← hV, ← hbq]
            have Hrs := Lib.hid hMk
            have HBel := Lib.hid hBel
            replace Hrh := Lib.hid (Hrh.out.below HBel.out)
            replace Hrg := Lib.hid (Hrg.out.below HBel.out)
            replace HB := Lib.hid (And.intro (HB.out.1.below HBel.out) (HB.out.2.trans (HBel.out.mono HB.out.2.size)))
            have hlo3 : rs = V2.heap.size := hbq
            have hge3 : w.heap.size < rs ∧ rs < V3.heap.size ∧ rh < rs ∧ rg < rs := by omega
            have hws3 : w.heap.size < V3.heap.size := by omega
            clear hV hbq hMk hBel HBel hlo3 hsz3
            refine hKK.out _ _ (HHO.out _ HB.out.1) (fun hHeld => ?_)
            clear hKK KK
            try simp only [Act.put, List.setIfInBounds_toArray, List.set_cons_zero, List.set_cons_succ]
            refine AnyE.take2 (i := 9) [] (oi := { dst := some 101, op := Go.Op.build 122 #[(0, Go.Operand.tmp 94), (1, Go.Operand.tmp 97), (2, Go.Operand.tmp 100)], type := 122, pos := "ref.go:256", after := #[{ on := 2, ground := Go.Ground.data }, { on := 5, ground := Go.Ground.data }, { on := 8, ground := Go.Ground.data }], guard := none }) (v := ?_) rfl (by kernel_rfl) (by kernel_rfl) (by kernel_rfl) (by kernel_rfl) (fun _ _ _ h => h) (Or.inl ⟨by rfl, ?_⟩) (by assumption) ?_
            rotate_left
            · (intro w0 hSw; (try dsimp only at hSw); go_split_ands; go_simp; with_reducible rfl)
            try simp only [Act.put, List.setIfInBounds_toArray, List.set_cons_zero, List.set_cons_succ]
            refine AnyE.ready (rs := [10]) (by kernel_rfl) (by simp) ?_
            refine AllE.cons (o := { dst := some 102, op := Go.Op.box 122 (Go.Operand.tmp 101), type := 115, pos := "ref.go:256", after := #[{ on := 9, ground := Go.Ground.data }], guard := none }) rfl (fun KK hKK => ?_) AllE.nil
            go_simp
            have HQ := Lib.hid (HS0.out V3 rs rh rg Hrs.out Hrh.out Hrg.out HB.out.2 (by omega) (by omega) (by omega) (by omega) (by omega))
            refine hKK.out _ _ (HHO.out _ (HB.out.1.alloc _)) (fun hHeld => ?_)
            clear hKK KK
            try simp only [Act.put, List.setIfInBounds_toArray, List.set_cons_zero, List.set_cons_succ]
            refine AnyE.ready (rs := [11]) (by kernel_rfl) (by simp) ?_
            refine AllE.last (o := { dst := some 14, op := Go.Op.assign (Go.Operand.tmp 102), type := 115, pos := "ref.go:256", after := #[{ on := 10, ground := Go.Ground.data }, { on := 0, ground := Go.Ground.phase }, { on := 1, ground := Go.Ground.phase }, { on := 2, ground := Go.Ground.phase }, { on := 3, ground := Go.Ground.phase }, { on := 4, ground := Go.Ground.phase }, { on := 5, ground := Go.Ground.phase }, { on := 6, ground := Go.Ground.phase }, { on := 7, ground := Go.Ground.phase }, { on := 8, ground := Go.Ground.phase }, { on := 9, ground := Go.Ground.phase }, { on := 10, ground := Go.Ground.phase }], guard := none }) rfl (by kernel_rfl) (fun KK hKK => ?_)
            go_simp
            refine hKK.out _ _ ?_
            clear hKK KK
            try simp only [Act.put, List.setIfInBounds_toArray, List.set_cons_zero, List.set_cons_succ]
            go_wp2_with fail
            go_meet
            case rel => exact ⟨HQ.out, HB.out.1.alloc _⟩
        · go_simp
          obtain ⟨V1, rg, hV, hbq, hMk, hBel, hsz1⟩ := nk1 n V0
          rw [← hV, ← hbq]
          have Hrg := Lib.hid hMk
          have HBel := Lib.hid hBel
          replace HB := Lib.hid (And.intro (HB.out.1.below HBel.out) (HB.out.2.trans (HBel.out.mono HB.out.2.size)))
          have hlo1 : rg = V0.heap.size := hbq
          have hge1 : w.heap.size < rg ∧ rg < V1.heap.size := by omega
          have hws1 : w.heap.size < V1.heap.size := by omega
          clear hV hbq hMk hBel HBel hlo1 hsz1
          refine hKK.out _ _ (HHO.out _ HB.out.1) (fun hHeld => ?_)
          clear hKK KK
          try simp only [Act.put, List.setIfInBounds_toArray, List.set_cons_zero, List.set_cons_succ]
          refine AnyE.ready (rs := [2, 5]) (by kernel_rfl) (by simp) ?_
          refine AllE.cons (o := { dst := some 94, op := Go.Op.makeSlice 66 (Go.Operand.tmp 93) (Go.Operand.tmp 93), type := 66, pos := "ref.go:256", after := #[{ on := 1, ground := Go.Ground.data }, { on := 1, ground := Go.Ground.data }], guard := none }) rfl (fun KK hKK => ?_) (AllE.cons (o := { dst := some 97, op := Go.Op.makeSlice 63 (Go.Operand.tmp 96) (Go.Operand.tmp 96), type := 63, pos := "ref.go:256", after := #[{ on := 4, ground := Go.Ground.data }, { on := 4, ground := Go.Ground.data }], guard := none }) rfl (fun KK hKK => ?_) AllE.nil)
          · go_simp
            obtain ⟨V2, rs, hV, hbq, hMk, hBel, hsz2⟩ := nk0 n V1
            rw [← hV, ← hbq]
            have Hrs := Lib.hid hMk
            have HBel := Lib.hid hBel
            replace Hrg := Lib.hid (Hrg.out.below HBel.out)
            replace HB := Lib.hid (And.intro (HB.out.1.below HBel.out) (HB.out.2.trans (HBel.out.mono HB.out.2.size)))
            have hlo2 : rs = V1.heap.size := hbq
            have hge2 : w.heap.size < rs ∧ rs < V2.heap.size ∧ rg < rs := by omega
            have hws2 : w.heap.size < V2.heap.size := by omega
            clear hV hbq hMk hBel HBel hlo2 hsz2
            refine hKK.out _ _ (HHO.out _ HB.out.1) (fun hHeld => ?_)
            clear hKK KK
            try simp only [Act.put, List.setIfInBounds_toArray, List.set_cons_zero, List.set_cons_succ]
            refine AnyE.ready (rs := [5]) (by kernel_rfl) (by simp) ?_
            refine AllE.cons (o := { dst := some 97, op := Go.Op.makeSlice 63 (Go.Operand.tmp 96) (Go.Operand.tmp 96), type := 63, pos := "ref.go:256", after := #[{ on := 4, ground := Go.Ground.data }, { on := 4, ground := Go.Ground.data }], guard := none }) rfl (fun KK hKK => ?_) AllE.nil
            go_simp
            obtain ⟨V3, rh, hV, hbq, hMk, hBel, hsz3⟩ := nk1 n V2
            rw [← hV, ← hbq]
            have Hrh := Lib.hid hMk
            have HBel := Lib.hid hBel
            replace Hrg := Lib.hid (Hrg.out.below HBel.out)
            replace Hrs := Lib.hid (Hrs.out.below HBel.out)
            replace HB := Lib.hid (And.intro (HB.out.1.below HBel.out) (HB.out.2.trans (HBel.out.mono HB.out.2.size)))
            have hlo3 : rh = V2.heap.size := hbq
            have hge3 : w.heap.size < rh ∧ rh < V3.heap.size ∧ rg < rh ∧ rs < rh := by omega
            have hws3 : w.heap.size < V3.heap.size := by omega
            clear hV hbq hMk hBel HBel hlo3 hsz3
            refine hKK.out _ _ (HHO.out _ HB.out.1) (fun hHeld => ?_)
            clear hKK KK
            try simp only [Act.put, List.setIfInBounds_toArray, List.set_cons_zero, List.set_cons_succ]
            refine AnyE.take2 (i := 9) [] (oi := { dst := some 101, op := Go.Op.build 122 #[(0, Go.Operand.tmp 94), (1, Go.Operand.tmp 97), (2, Go.Operand.tmp 100)], type := 122, pos := "ref.go:256", after := #[{ on := 2, ground := Go.Ground.data }, { on := 5, ground := Go.Ground.data }, { on := 8, ground := Go.Ground.data }], guard := none }) (v := ?_) rfl (by kernel_rfl) (by kernel_rfl) (by kernel_rfl) (by kernel_rfl) (fun _ _ _ h => h) (Or.inl ⟨by rfl, ?_⟩) (by assumption) ?_
            rotate_left
            · (intro w0 hSw; (try dsimp only at hSw); go_split_ands; go_simp; with_reducible rfl)
            try simp only [Act.put, List.setIfInBounds_toArray, List.set_cons_zero, List.set_cons_succ]
            refine AnyE.ready (rs := [10]) (by kernel_rfl) (by simp) ?_
            refine AllE.cons (o := { dst := some 102, op := Go.Op.box 122 (Go.Operand.tmp 101), type := 115, pos := "ref.go:256", after := #[{ on := 9, ground := Go.Ground.data }], guard := none }) rfl (fun KK hKK => ?_) AllE.nil
            go_simp
            have HQ := Lib.hid (HS0.out V3 rs rh rg Hrs.out Hrh.out Hrg.out HB.out.2 (by omega) (by omega) (by omega) (by omega) (by omega))
            refine hKK.out _ _ (HHO.out _ (HB.out.1.alloc _)) (fun hHeld => ?_)
            clear hKK KK
            try simp only [Act.put, List.setIfInBounds_toArray, List.set_cons_zero, List.set_cons_succ]
            refine AnyE.ready (rs := [11]) (by kernel_rfl) (by simp) ?_
            refine AllE.last (o := { dst := some 14, op := Go.Op.assign (Go.Operand.tmp 102), type := 115, pos := "ref.go:256", after := #[{ on := 10, ground := Go.Ground.data }, { on := 0, ground := Go.Ground.phase }, { on := 1, ground := Go.Ground.phase }, { on := 2, ground := Go.Ground.phase }, { on := 3, ground := Go.Ground.phase }, { on := 4, ground := Go.Ground.phase }, { on := 5, ground := Go.Ground.phase }, { on := 6, ground := Go.Ground.phase }, { on := 7, ground := Go.Ground.phase }, { on := 8, ground := Go.Ground.phase }, { on := 9, ground := Go.Ground.phase }, { on := 10, ground := Go.Ground.phase }], guard := none }) rfl (by kernel_rfl) (fun KK hKK => ?_)
            go_simp
            refine hKK.out _ _ ?_
            clear hKK KK
            try simp only [Act.put, List.setIfInBounds_toArray, List.set_cons_zero, List.set_cons_succ]
            go_wp2_with fail
            go_meet
            case rel => exact ⟨HQ.out, HB.out.1.alloc _⟩
          · go_simp
            obtain ⟨V2, rh, hV, hbq, hMk, hBel, hsz2⟩ := nk1 n V1
            rw [← hV, ← hbq]
            have Hrh := Lib.hid hMk
            have HBel := Lib.hid hBel
            replace Hrg := Lib.hid (Hrg.out.below HBel.out)
            replace HB := Lib.hid (And.intro (HB.out.1.below HBel.out) (HB.out.2.trans (HBel.out.mono HB.out.2.size)))
            have hlo2 : rh = V1.heap.size := hbq
            have hge2 : w.heap.size < rh ∧ rh < V2.heap.size ∧ rg < rh := by omega
            have hws2 : w.heap.size < V2.heap.size := by omega
            clear hV hbq hMk hBel HBel hlo2 hsz2
            refine hKK.out _ _ (HHO.out _ HB.out.1) (fun hHeld => ?_)
            clear hKK KK
            try simp only [Act.put, List.setIfInBounds_toArray, List.set_cons_zero, List.set_cons_succ]
            refine AnyE.ready (rs := [2]) (by kernel_rfl) (by simp) ?_
            refine AllE.cons (o := { dst := some 94, op := Go.Op.makeSlice 66 (Go.Operand.tmp 93) (Go.Operand.tmp 93), type := 66, pos := "ref.go:256", after := #[{ on := 1, ground := Go.Ground.data }, { on := 1, ground := Go.Ground.data }], guard := none }) rfl (fun KK hKK => ?_) AllE.nil
            go_simp
            obtain ⟨V3, rs, hV, hbq, hMk, hBel, hsz3⟩ := nk0 n V2
            rw [← hV, ← hbq]
            have Hrs := Lib.hid hMk
            have HBel := Lib.hid hBel
            replace Hrg := Lib.hid (Hrg.out.below HBel.out)
            replace Hrh := Lib.hid (Hrh.out.below HBel.out)
            replace HB := Lib.hid (And.intro (HB.out.1.below HBel.out) (HB.out.2.trans (HBel.out.mono HB.out.2.size)))
            have hlo3 : rs = V2.heap.size := hbq
            have hge3 : w.heap.size < rs ∧ rs < V3.heap.size ∧ rg < rs ∧ rh < rs := by omega
            have hws3 : w.heap.size < V3.heap.size := by omega
            clear hV hbq hMk hBel HBel hlo3 hsz3
            refine hKK.out _ _ (HHO.out _ HB.out.1) (fun hHeld => ?_)
            clear hKK KK
            try simp only [Act.put, List.setIfInBounds_toArray, List.set_cons_zero, List.set_cons_succ]
            refine AnyE.take2 (i := 9) [] (oi := { dst := some 101, op := Go.Op.build 122 #[(0, Go.Operand.tmp 94), (1, Go.Operand.tmp 97), (2, Go.Operand.tmp 100)], type := 122, pos := "ref.go:256", after := #[{ on := 2, ground := Go.Ground.data }, { on := 5, ground := Go.Ground.data }, { on := 8, ground := Go.Ground.data }], guard := none }) (v := ?_) rfl (by kernel_rfl) (by kernel_rfl) (by kernel_rfl) (by kernel_rfl) (fun _ _ _ h => h) (Or.inl ⟨by rfl, ?_⟩) (by assumption) ?_
            rotate_left
            · (intro w0 hSw; (try dsimp only at hSw); go_split_ands; go_simp; with_reducible rfl)
            try simp only [Act.put, List.setIfInBounds_toArray, List.set_cons_zero, List.set_cons_succ]
            refine AnyE.ready (rs := [10]) (by kernel_rfl) (by simp) ?_
            refine AllE.cons (o := { dst := some 102, op := Go.Op.box 122 (Go.Operand.tmp 101), type := 115, pos := "ref.go:256", after := #[{ on := 9, ground := Go.Ground.data }], guard := none }) rfl (fun KK hKK => ?_) AllE.nil
            go_simp
            have HQ := Lib.hid (HS0.out V3 rs rh rg Hrs.out Hrh.out Hrg.out HB.out.2 (by omega) (by omega) (by omega) (by omega) (by omega))
            refine hKK.out _ _ (HHO.out _ (HB.out.1.alloc _)) (fun hHeld => ?_)
            clear hKK KK
            try simp only [Act.put, List.setIfInBounds_toArray, List.set_cons_zero, List.set_cons_succ]
            refine AnyE.ready (rs := [11]) (by kernel_rfl) (by simp) ?_
            refine AllE.last (o := { dst := some 14, op := Go.Op.assign (Go.Operand.tmp 102), type := 115, pos := "ref.go:256", after := #[{ on := 10, ground := Go.Ground.data }, { on := 0, ground := Go.Ground.phase }, { on := 1, ground := Go.Ground.phase }, { on := 2, ground := Go.Ground.phase }, { on := 3, ground := Go.Ground.phase }, { on := 4, ground := Go.Ground.phase }, { on := 5, ground := Go.Ground.phase }, { on := 6, ground := Go.Ground.phase }, { on := 7, ground := Go.Ground.phase }, { on := 8, ground := Go.Ground.phase }, { on := 9, ground := Go.Ground.phase }, { on := 10, ground := Go.Ground.phase }], guard := none }) rfl (by kernel_rfl) (fun KK hKK => ?_)
            go_simp
            refine hKK.out _ _ ?_
            clear hKK KK
            try simp only [Act.put, List.setIfInBounds_toArray, List.set_cons_zero, List.set_cons_succ]
            go_wp2_with fail
            go_meet
            case rel => exact ⟨HQ.out, HB.out.1.alloc _⟩
      case rest =>
        obtain ⟨⟨K, X, rfl, rfl, rfl, rfl, hKo, hkf, hko, hks, hkh, hkg, rfl, hst⟩, hbx⟩ := hcut
        have HNn : Hid (K.n = n) := Lib.hid HN.out
        have HDn : Hid (K.D = D) := Lib.hid HD.out
        have HRy : Hid (Rdy K (inL L) ∧ Rdy2 K (inL L) ∧ inL L 0 = true) := Lib.hid (by
          have h1 := rdy_of (K := K) (by rw [HNn.out, HDn.out]; exact HR0.out) (by rw [HNn.out, HDn.out, HL.out, HCr.out]) hKo.n0
          rw [HNn.out, HDn.out, HL.out] at h1
          exact h1)
        have HFl : Hid (∀ F p e, K.run = (F, p, e) → flowR K.P K.m = (p, e) ∧ flowF K.P K.m = F) := Lib.hid fun F p e h1 => flowR_3 (p0 := (rdR n D).1) (p1 := 0) (by rw [HN.out, HD.out]; exact Prod.ext rfl HR0.out) (by rw [HN.out, HD.out, HL.out]; exact HCr.out) h1
        have HKo := Lib.hid hKo
        have HSt := Lib.hid hst
        have HBx : Hid (∀ V, Fr K wc V → Bx V K.w0.heap.size #[.slice K.A.pa K.P.np K.A.pc, .slice K.A.ca K.P.nc K.A.cc, .slice (some ⟨bm, om, none⟩) K.P.nm K.A.mc] 26) := Lib.hid fun V hV => hV.box hbx hkf hko hks hkh hkg
        have HNe : Hid (K.w0.heap.size ≠ K.rg ∧ K.w0.heap.size ≠ K.rh) := Lib.hid ⟨Nat.ne_of_lt hkg, Nat.ne_of_lt hkh⟩
        have ni : (0 : Int) < n := by omega
        have f1 : wc.cell? ⟨K.f, 1, none⟩ = some (.slice (some ⟨K.rh, 0, none⟩) n n) := (hst.f.cell 1).trans (by rw [HNn.out]; rfl)
        have x0 : wc.cell? ⟨K.rh, 0, none⟩ = some (.bool false) := hst.h.cell hKo.n0
        have y0 : wc.frozen? ⟨K.rh, 0, none⟩ = false := hst.h.frz 0
        obtain ⟨W5, hW5⟩ : ∃ q, q = wc.setCell ⟨K.rh, 0, none⟩ (.bool true) := ⟨_, rfl⟩
        have HI : Hid (GoX K wc (inL L) n W5 Fl.z X) := Lib.hid (by
          have h1 := GoX.first hst hKo HRy.out.2.2
          rw [HNn.out] at h1
          rw [hW5]
          exact h1)
        have HW5 := Lib.hid hW5
        have HTh : Hid (∀ V F X' z, StC K V F X' → z < n → inL L z = true → Bx V K.w0.heap.size #[.slice K.A.pa K.P.np K.A.pc, .slice K.A.ca K.P.nc K.A.cc, .slice (some ⟨bm, om, none⟩) K.P.nm K.A.mc] 26 → Calls Try.prog 92 #[.pointer (some ⟨K.f, 0, none⟩), .agg #[.slice K.A.pa K.P.np K.A.pc, .slice K.A.ca K.P.nc K.A.cc, .slice (some ⟨bm, om, none⟩) K.P.nm K.A.mc], .int .i64 K.m, .int .i64 (z : Nat)] V (ThrP K V F z)) := Lib.hid fun V F X' z h1 h2 h3 _ => by
          have h4 := thru_c K HKo.out HTy.out.1 HTy.out.2 HPl.out (inL L) F X' z V h1 HRy.out.1 (by rw [HNn.out]; exact h2) h3
          have e : K.P.cells K.A = #[.slice K.A.pa K.P.np K.A.pc, .slice K.A.ca K.P.nc K.A.cc, .slice (some ⟨bm, om, none⟩) K.P.nm K.A.mc] := by unfold Pg.cells; rw [HMa.out]
          rw [e] at h4
          exact h4
        clear hW5 hst hKo hbx hkf hko hks hkh hkg HB HBw HCd HS0 HNm HMk HM4 HCk
        go_upto_region 17 with fail
        rw [← HW5.out]
        clear f1 x0 y0
        go_wp2_with fail
        go_loopg [15, 16] n (fun g p q wo => ∃ F X, GoX K wc (inL L) g wo F X)
        case atStart => exact ⟨_, _, HI.out⟩
        case round =>
          obtain ⟨F, X', hI⟩ := hrel
          have HG := Lib.hid hI
          clear hI HI
          have HFr := Lib.hid HG.out.r
          generalize hwV : wr = V at HG HFr ⊢
          clear hwV
          go_wp2_with fail
          go_loopw [15] (fun i wx => ∃ z : Nat, z ≤ n ∧ i = .int .i64 z ∧ wx = V ∧ Hid (∀ j, j < z → ¬ (F.H j = true ∧ F.G j = false))) (fun i _ => n - (intOf i).toNat)
          case atStart => exact ⟨0, Nat.zero_le _, rfl, rfl, Lib.hid fun j hj => absurd hj (Nat.not_lt_zero _)⟩
          case round =>
            obtain ⟨z, hz, rfl, hwx, HLw⟩ := hrel
            rw [hwx]
            clear hwx
            have f1 : V.cell? ⟨K.f, 1, none⟩ = some (.slice (some ⟨K.rh, 0, none⟩) n n) := (HG.out.f.f.cell 1).trans (by rw [HNn.out]; rfl)
            have f2 : V.cell? ⟨K.f, 2, none⟩ = some (.slice (some ⟨K.rg, 0, none⟩) n n) := (HG.out.f.f.cell 2).trans (by rw [HNn.out]; rfl)
            by_cases hzn : z < n
            · have hzi : (z : Int) < n := by omega
              have dn : decide ((z : Int) < (n : Int)) = true := decide_eq_true hzi
              have dn' : decide (z < n) = true := decide_eq_true hzn
              have xh : V.cell? ⟨K.rh, z, none⟩ = some (.bool (F.H z)) := HG.out.f.h.cell (by rw [HNn.out]; exact hzn)
              have xg : V.cell? ⟨K.rg, z, none⟩ = some (.bool (F.G z)) := HG.out.f.g.cell (by rw [HNn.out]; exact hzn)
              cases hH : F.H z with
              | false =>
                rw [hH] at xh
                have HHf := Lib.hid hH
                clear hH
                go_wp2
                exact ⟨⟨z + 1, by omega, by go_num, (by first | rfl | trivial), Lib.hid fun j hj => by
                  by_cases hjk : j = z
                  · subst hjk; rintro ⟨q, _⟩; rw [HHf.out] at q; cases q
                  · exact HLw.out j (by omega)⟩, by simp [intOf]; omega⟩
              | true =>
                rw [hH] at xh
                have HHt := Lib.hid hH
                clear hH
                cases hGz : F.G z with
                | true =>
                  rw [hGz] at xg
                  have HGt := Lib.hid hGz
                  clear hGz
                  go_wp2
                  exact ⟨⟨z + 1, by omega, by go_num, (by first | rfl | trivial), Lib.hid fun j hj => by
                    by_cases hjk : j = z
                    · subst hjk; rintro ⟨_, q⟩; rw [HGt.out] at q; cases q
                    · exact HLw.out j (by omega)⟩, by simp [intOf]; omega⟩
                | false =>
                  rw [hGz] at xg
                  have HGf := Lib.hid hGz
                  clear hGz
                  have dq : ((z : Int) == (n : Int)) = false := by simpa using (show ¬ (z : Int) = (n : Int) by omega)
                  have dq' : (z == n) = false := by simpa using (show ¬ z = n by omega)
                  have yg : V.frozen? ⟨K.rg, z, none⟩ = false := HG.out.f.g.frz z
                  have hOz : inL L z = true := HG.out.ho z (by rw [HNn.out]; exact hzn) HHt.out
                  obtain ⟨W6, hW6⟩ : ∃ q, q = V.setCell ⟨K.rg, z, none⟩ (.bool true) := ⟨_, rfl⟩
                  have HF6 : Hid (StC K W6 (F.gone z) X' ∧ Fr K wc W6) := Lib.hid (by rw [hW6]; exact ⟨HG.out.f.setG HKo.out z, HFr.out.trans (Fr.set (.inr (.inr (.inr (.inr rfl)))) _ _)⟩)
                  have HB6 := Lib.hid (HBx.out W6 HF6.out.2)
                  have HT6 := Lib.hid (HTh.out W6 (F.gone z) X' z HF6.out.1 hzn hOz HB6.out)
                  have HW6 := Lib.hid hW6
                  have HOz := Lib.hid hOz
                  clear hW6 hOz
                  go_upto_region 23 with fail
                  rw [← HW6.out]
                  clear xh xg yg f1 f2
                  have p0 : W6.cell? ⟨K.w0.heap.size, 0, none⟩ = some (.slice K.A.pa K.P.np K.A.pc) := HB6.out.cell 0
                  have p1 : W6.cell? ⟨K.w0.heap.size, 1, none⟩ = some (.slice K.A.ca K.P.nc K.A.cc) := HB6.out.cell 1
                  have p2 : W6.cell? ⟨K.w0.heap.size, 2, none⟩ = some (.slice (some ⟨bm, om, none⟩) K.P.nm K.A.mc) := HB6.out.cell 2
                  go_wp2_with fail
                  refine HT6.out.mono ?_
                  rintro e W7 ⟨X7, rfl, hs7, hr7⟩
                  clear p0 p1 p2
                  obtain ⟨er, her⟩ : ∃ q, stE K.P K.m K.n K.D (K.P.sk K.m) (F.gone z) z = q := ⟨_, rfl⟩
                  rw [her]
                  have H7 := Lib.hid (And.intro hs7 (HF6.out.2.trans hr7))
                  have HEr := Lib.hid her
                  clear hs7 hr7 her
                  by_cases he0 : er = 0
                  · obtain ⟨g', hg1, hg2⟩ := HG.out.next (by rw [HNn.out]; exact hzn) HLw.out HOz.out HRy.out.2.1 HHt.out HGf.out (HEr.out.trans he0) H7.out.1 H7.out.2
                    have HG2 := Lib.hid hg2
                    have d0 : (er != 0) = false := by simpa using he0
                    clear hg2 he0
                    go_wp2_with fail
                    go_roundg g'
                    case measure => exact hg1
                    case rel => exact ⟨_, X7, HG2.out⟩
                  · have d0 : (er != 0) = true := by simpa using he0
                    have HRn : Hid (flowR K.P K.m = (z, er)) := Lib.hid (by
                      have h1 := HG.out.bad (by rw [HNn.out]; exact hzn) HLw.out HHt.out HGf.out HEr.out he0
                      exact (HFl.out K.run.1 z er (Prod.ext rfl h1)).1)
                    have HE0 := Lib.hid he0
                    clear he0
                    go_wp2
                    go_ret3
                    exact HBad.out z er _ HRn.out HE0.out H7.out.1.b
            · obtain rfl : z = n := by omega
              have dn : decide ((z : Int) < (z : Int)) = false := decide_eq_false (by omega)
              have HRn : Hid (flowR K.P K.m = (0, 0) ∧ flowF K.P K.m = F) := Lib.hid (HFl.out F 0 0 (HG.out.fin (fun i hi => HLw.out i (by rw [← HNn.out]; exact hi))))
              go_wp2
              go_ret3
              exact runX_ok HKo.out HK.out HRn.out.1 (HRn.out.2 ▸ HG.out.f)
end Go.Proofs.Ytpiafgmncfibmaa.Vf
