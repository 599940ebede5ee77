import Derived.Lib.AppendZerosOnto
import Derived.Maps.AppendAt
import Derived.Laws.OwnMore
import Derived.Lib.SliceRun
import Derived.StillTailTactics
import Derived.Deep.CutRange
import Derived.Laws.BitsLemmas
import Derived.IntWalk
import Derived.Laws.BitsAllLaws
import Derived.Deep.DrawnRows
import Derived.Test.YtpiafgmncfibmaaWh
import Derived.Test.YtpiafgmncfibmaaRows
import Derived.WalkKit
import Derived.ProofKit
import Derived.OpenShut
import Derived.Deep.QuietTactic
import Derived.BigQuiet
import Derived.Outline
import Derived.WalkSmall
import Derived.WalkLawsBesides
import Derived.WalkSpells
import Derived.BigGuardPart
import Derived.RegionTactic
import Derived.Deep.RegionHeld3
import Derived.Lib.Hide
import Derived.Deep.MidRow
import Derived.Below
import Derived.Deep.RegionWith
import Derived.Deep.OwnRows
import Derived.Deep.AppendLies
import Derived.Deep.RegionLaw
import Derived.Deep.CutBlock
import Derived.Deep.DeepCutAuto
namespace Go.Proofs.Ytpiafgmncfibmaa.Vf
open Go.ChangeShapes Go.WideShapes Go.ChangeAt Go.RowKit
set_option linter.unusedVariables false

set_option maxRecDepth 100000 in
set_option maxHeartbeats 20000000 in
theorem shapes_law (P : Pg) (A : Ad) (m : Int) (w : World) (h : PgAt w P A) (hf : Fits P A) (hc : Caps P A) : Calls Try.prog 10 #[.agg (P.cells A), .int .i64 m] w fun e w' => e = .returned (.bool true) ∧ Below w.heap.size w w' := by
  have HP := Lib.hid h
  have HFt := Lib.hid hf
  have HCp := Lib.hid hc
  have HB0 : Hid (Bx (w.alloc (.cells #[.slice A.pa P.np A.pc, .slice A.ca P.nc A.cc, .slice A.ma P.nm A.mc] 26)) w.heap.size #[.slice A.pa P.np A.pc, .slice A.ca P.nc A.cc, .slice A.ma P.nm A.mc] 26 ∧ Below w.heap.size w (w.alloc (.cells #[.slice A.pa P.np A.pc, .slice A.ca P.nc A.cc, .slice A.ma P.nm A.mc] 26))) := Lib.hid ⟨Bx.new _ _ _, (Below.refl _ _).alloc (Nat.le_refl _) _⟩
  clear h hf hc
  show Calls Try.prog 10 #[.agg #[.slice A.pa P.np A.pc, .slice A.ca P.nc A.cc, .slice A.ma P.nm A.mc], .int .i64 m] w _
  go_enter Try.func10, Try.ntmps10
  go_upto_region 1 with fail
  obtain ⟨W0, hW0⟩ : ∃ q, q = w.alloc (.cells #[.slice A.pa P.np A.pc, .slice A.ca P.nc A.cc, .slice A.ma P.nm A.mc] 26) := ⟨_, rfl⟩
  rw [← hW0] at HB0 ⊢
  clear hW0
  have HKn := Lib.hid (known_c W0)
  go_wp2_with fail
  refine HKn.out.mono ?_
  rintro e W1 ⟨rfl, hb⟩
  have HB1 : Hid (Bx W1 w.heap.size #[.slice A.pa P.np A.pc, .slice A.ca P.nc A.cc, .slice A.ma P.nm A.mc] 26 ∧ Below w.heap.size w W1) := Lib.hid ⟨HB0.out.1.below hb, HB0.out.2.trans (hb.mono HB0.out.2.size)⟩
  clear hb HKn HB0
  have x0 : W1.cell? ⟨w.heap.size, 0, none⟩ = some (.slice A.pa P.np A.pc) := HB1.out.1.cell 0
  have x1 : W1.cell? ⟨w.heap.size, 1, none⟩ = some (.slice A.ca P.nc A.cc) := HB1.out.1.cell 1
  have x2 : W1.cell? ⟨w.heap.size, 2, none⟩ = some (.slice A.ma P.nm A.mc) := HB1.out.1.cell 2
  have HFw := Lib.hid (few_c P A W1 (HP.out.kept (Kept.of HB1.out.2)) HFt.out)
  go_wp2_with fail
  clear x0 x1 x2
  refine HFw.out.mono ?_
  rintro e W2 ⟨⟨fb, rfl⟩, hb⟩
  have HB2 : Hid (Bx W2 w.heap.size #[.slice A.pa P.np A.pc, .slice A.ca P.nc A.cc, .slice A.ma P.nm A.mc] 26 ∧ Below w.heap.size w W2) := Lib.hid ⟨HB1.out.1.below hb, HB1.out.2.trans (hb.mono HB1.out.2.size)⟩
  clear hb HFw HB1
  have x0 : W2.cell? ⟨w.heap.size, 0, none⟩ = some (.slice A.pa P.np A.pc) := HB2.out.1.cell 0
  have x1 : W2.cell? ⟨w.heap.size, 1, none⟩ = some (.slice A.ca P.nc A.cc) := HB2.out.1.cell 1
  have x2 : W2.cell? ⟨w.heap.size, 2, none⟩ = some (.slice A.ma P.nm A.mc) := HB2.out.1.cell 2
  cases fb with
  | false => go_wp2; go_ret; exact ⟨rfl, HB2.out.2⟩
  | true =>
  have HS := Lib.hid (Shapes_c P A m W2 (HP.out.kept (Kept.of HB2.out.2)) HFt.out HCp.out)
  go_wp2_with fail
  clear x0 x1 x2
  refine HS.out.mono ?_
  rintro e W3 ⟨hb, he⟩
  clear HS
  obtain ⟨q2, hq2⟩ : ∃ q, (methR P m).2 = q := ⟨_, rfl⟩
  rw [hq2] at he
  clear hq2
  by_cases h0 : q2 = 0
  case neg =>
    rw [if_neg h0] at he
    subst he
    have d0 : (q2 != 0) = true := by simpa using h0
    have HB3 := Lib.hid (HB2.out.2.trans (hb.mono HB2.out.2.size))
    clear h0 hb
    go_wp2
    go_ret
    exact ⟨rfl, HB3.out⟩
  rw [if_pos h0] at he
  clear h0
  obtain ⟨hck, m0, m1, hfr, K, X, lo, rfl, rfl, hm, hK, hw0, hfl, rfl⟩ := he
  obtain ⟨j, rfl⟩ : ∃ j : Nat, m = (j : Int) := ⟨m.toNat, by omega⟩
  rw [Int.toNat_natCast] at hm hfr hfl
  subst hm
  have HI3 : Hid (ShI K X lo w W3) := Lib.hid ⟨hfl, HB2.out.1.below hb, HB2.out.2.trans (hb.mono HB2.out.2.size)⟩
  have n0 := hK.n0
  have n1 := hK.n1
  obtain ⟨hG, hAll, hRd⟩ := flow_facts K n0 hfr
  have HG := Lib.hid hG
  have HAll := Lib.hid hAll
  have HRd := Lib.hid hRd
  have HK := Lib.hid hK
  have hsk0 := hK.s0
  have hsk1 := hK.s1
  obtain ⟨bm, om, hma, hbm, hcm⟩ := HP.out.m.resolve_left (by omega)
  have HM4 : Hid (∀ V, Below w.heap.size w V → V.cell? ⟨bm, om + K.m * 5 + 4, none⟩ = some (.slice (K.A.cda K.m) K.n (K.A.cdc K.m)) ∧ V.cell? ⟨bm, om + K.m * 5 + 3, none⟩ = some (.int .i64 (K.P.sk K.m))) := Lib.hid fun V hV => ⟨(hV.cell (p := ⟨bm, om + K.m * 5 + 4, none⟩) hbm).trans (hcm K.m hK.m).2.2.2.2, (hV.cell (p := ⟨bm, om + K.m * 5 + 3, none⟩) hbm).trans (hcm K.m hK.m).2.2.2.1⟩
  have HMa := Lib.hid hma
  have hmm : (K.m : Int) < K.P.nm := m1
  have x2 : W3.cell? ⟨w.heap.size, 2, none⟩ = some (.slice (some ⟨bm, om, none⟩) K.P.nm K.A.mc) := by rw [← HMa.out]; exact HI3.out.p.cell 2
  have m4 : W3.cell? ⟨bm, om + K.m * 5 + 4, none⟩ = some (.slice (K.A.cda K.m) K.n (K.A.cdc K.m)) := (HM4.out W3 HI3.out.l).1
  have s00 : W3.cell? ⟨K.rs, 0, none⟩ = some (.slice (X.a 0) 0 (X.c 0)) := by
    have e := hfl.s.cell (k := 0) (j := 0) n0 (by omega)
    unfold shF at e
    rw [hG.s0] at e
    exact e
  have s01 : W3.cell? ⟨K.rs, 1, none⟩ = some (.int .i64 0) := by
    have e := hfl.s.cell (k := 0) (j := 1) n0 (by omega)
    unfold shF at e
    rw [hG.s0] at e
    exact e
  have s02 : W3.cell? ⟨K.rh, 0, none⟩ = some (.bool true) := by
    have e := hfl.h.cell n0
    rw [hG.h0] at e
    exact e
  have ni : (0 : Int) < K.n := by omega
  clear hck m0 m1 hfr hw0 hfl hK hb hG hAll hRd hma hcm HB2 HP HFt HCp
  go_wp2_with fail
  clear x2 m4 s00 s01 s02
  go_loopw [9] (fun i wr => ∃ k : Nat, k ≤ K.n ∧ i = .int .i64 k ∧ Hid (ShI K X lo w wr)) (fun i _ => K.n - (intOf i).toNat)
  case atStart => exact ⟨0, Nat.zero_le _, rfl, HI3⟩
  case round =>
    obtain ⟨k, hk, rfl, HI⟩ := hrel
    by_cases hkn : k < K.n
    case neg =>
      go_wp2
      go_ret
      exact ⟨rfl, HI.out.l⟩
    have hki : (k : Int) < K.n := by omega
    have HNext : Hid (∀ V, ShI K X lo w V → (∃ k' : Nat, k' ≤ K.n ∧ Value.int .i64 ((k : Int) + 1) = .int .i64 k' ∧ Hid (ShI K X lo w V)) ∧ K.n - (intOf (.int .i64 ((k : Int) + 1))).toNat < K.n - (intOf (.int .i64 (k : Int))).toNat) := Lib.hid fun V hV => ⟨⟨k + 1, by omega, by go_num, Lib.hid hV⟩, by simp [intOf]; omega⟩
    cases hH : (flowF K.P K.m).H k with
    | false =>
      have xh : wr.cell? ⟨K.rh, k, none⟩ = some (.bool false) := (HI.out.f.h.cell hkn).trans (by rw [hH])
      clear hH
      go_wp2
      exact HNext.out _ HI.out
    | true =>
    have xh : wr.cell? ⟨K.rh, k, none⟩ = some (.bool true) := (HI.out.f.h.cell hkn).trans (by rw [hH])
    have hO := HG.out.ho k hkn hH
    obtain ⟨hrd, hnm, hjm⟩ := HRd.out k hkn hO
    obtain ⟨he, hlen, hon, hjp⟩ := HG.out.co k hkn hH (HAll.out k hkn hH)
    have hD41 : K.D k < 41 := by unfold rdE at hrd; split at hrd <;> omega
    have hnx := nxt_le hrd
    obtain ⟨sh, hsh⟩ : ∃ q, beh K.P K.m K.D (flowF K.P K.m) k = q := ⟨_, rfl⟩
    rw [hsh] at hlen hon hjp
    have HSh := Lib.hid hsh
    have HEr := Lib.hid he
    have HOn := Lib.hid hon
    have HJp := Lib.hid hjp
    have HJm := Lib.hid hjm
    have hlen2 : sh.l.length ≤ 40 := by omega
    have HD5 : Hid (decide (K.P.sk K.m < (sh.l.length : Int)) = false) := Lib.hid (decide_eq_false (by omega))
    have HRead : Hid (Calls Try.prog 31 #[.slice (K.A.cda K.m) K.n (K.A.cdc K.m), .int .i64 k] wr fun e w' => e = .returned (.tuple #[.agg #[.int .i64 (K.D k : Nat), .int .i64 (opA K.D k), .int .i64 (opB K.D k), .int .i64 (szK (kindO (K.D k)) : Nat)], .int .i64 0]) ∧ Below wr.heap.size wr w') := Lib.hid (by
      have h := cread_c (K.A.cda K.m) K.n (K.A.cdc K.m) K.D k wr ⟨by omega, HK.out.cap.d K.m HK.out.m, fun i hi => HK.out.fit.cd K.m i HK.out.m hi, (HK.out.at'.kept (Kept.of HI.out.f.b)).d K.m HK.out.m⟩ hkn
      rw [rdC_ok hrd, hrd] at h
      exact h)
    have HEf : Hid (∀ V, ShI K X lo w V → Calls Try.prog 32 #[.agg #[.slice K.A.pa K.P.np K.A.pc, .slice K.A.ca K.P.nc K.A.cc, .slice K.A.ma K.P.nm K.A.mc], .int .i64 K.m, .agg #[.int .i64 (K.D k : Nat), .int .i64 (opA K.D k), .int .i64 (opB K.D k), .int .i64 (szK (kindO (K.D k)) : Nat)], .agg #[.slice (X.a k) ((flowF K.P K.m).S k).l.length (X.c k), .int .i64 ((flowF K.P K.m).S k).h]] V (EffQ K.P K.m (K.D k) (opA K.D k) (opB K.D k) ((flowF K.P K.m).S k) V)) := Lib.hid fun V hV => (effect_c K.P K.A K.m (K.D k) (opA K.D k) (opB K.D k) _ ((flowF K.P K.m).S k) (X.a k) (X.c k) V (HK.out.at'.kept (Kept.of hV.f.b)) HK.out.fit HK.out.cap HK.out.m hnm hD41 (hV.f.ti k hkn) (hV.f.tc k hkn) (by have := hV.f.tl k hkn; omega) (hV.f.t0 k hkn) (hV.f.t1 k hkn)).mono fun e w' he => EffR.q he
    clear hH hO hrd hnm hjm he hlen hon hjp hsh
    go_wp2_with fail
    clear xh
    refine HRead.out.mono ?_
    rintro e u1 ⟨rfl, hb⟩
    have HI1 := Lib.hid (HI.out.below hb)
    clear hb HRead HI
    go_upto_region 18 with fail
    obtain ⟨W5, hW5⟩ : ∃ q, q = u1.alloc (.cells #[.int .i64 (K.D k : Nat), .int .i64 (opA K.D k), .int .i64 (opB K.D k), .int .i64 (szK (kindO (K.D k)) : Nat)] 74) := ⟨_, rfl⟩
    rw [← hW5]
    obtain ⟨t10, ht10⟩ : ∃ q, q = u1.heap.size := ⟨_, rfl⟩
    rw [← ht10]
    have HI5 : Hid (ShI K X lo w W5 ∧ Bx W5 t10 #[.int .i64 (K.D k : Nat), .int .i64 (opA K.D k), .int .i64 (opB K.D k), .int .i64 (szK (kindO (K.D k)) : Nat)] 74) := Lib.hid (by rw [hW5, ht10]; exact ⟨HI1.out.below ((Below.refl _ _).alloc (Nat.le_refl _) _), Bx.new _ _ _⟩)
    clear hW5 ht10 HI1
    replace HI5 : Hid (ShK K X lo k t10 w W5) := Lib.hid ⟨HI5.out.1, HI5.out.2⟩
    have HHO : Hid (∀ V, ShK K X lo k t10 w V → V.cell? ⟨w.heap.size, 0, none⟩ = some (.slice K.A.pa K.P.np K.A.pc) ∧ V.cell? ⟨w.heap.size, 1, none⟩ = some (.slice K.A.ca K.P.nc K.A.cc) ∧ V.cell? ⟨w.heap.size, 2, none⟩ = some (.slice K.A.ma K.P.nm K.A.mc) ∧ V.cell? ⟨t10, 0, none⟩ = some (.int .i64 (K.D k : Nat)) ∧ V.cell? ⟨t10, 1, none⟩ = some (.int .i64 (opA K.D k)) ∧ V.cell? ⟨t10, 2, none⟩ = some (.int .i64 (opB K.D k)) ∧ V.cell? ⟨t10, 3, none⟩ = some (.int .i64 (szK (kindO (K.D k)) : Nat)) ∧ V.cell? ⟨K.rs, k * 2, none⟩ = some (.slice (X.a k) ((flowF K.P K.m).S k).l.length (X.c k)) ∧ V.cell? ⟨K.rs, k * 2 + 1, none⟩ = some (.int .i64 ((flowF K.P K.m).S k).h)) := Lib.hid fun V h => ⟨h.i.p.cell 0, h.i.p.cell 1, h.i.p.cell 2, h.x.cell 0, h.x.cell 1, h.x.cell 2, h.x.cell 3, h.i.f.s.cell (j := 0) hkn (by omega), h.i.f.s.cell (j := 1) hkn (by omega)⟩
    have HEf2 : Hid (∀ V, ShK K X lo k t10 w V → Calls Try.prog 32 #[.agg #[.slice K.A.pa K.P.np K.A.pc, .slice K.A.ca K.P.nc K.A.cc, .slice K.A.ma K.P.nm K.A.mc], .int .i64 K.m, .agg #[.int .i64 (K.D k : Nat), .int .i64 (opA K.D k), .int .i64 (opB K.D k), .int .i64 (szK (kindO (K.D k)) : Nat)], .agg #[.slice (X.a k) ((flowF K.P K.m).S k).l.length (X.c k), .int .i64 ((flowF K.P K.m).S k).h]] V fun e w' => ∃ ra rc, e = .returned (.tuple #[.agg #[.slice ra sh.l.length rc, .int .i64 sh.h], .int .i64 0]) ∧ Below V.heap.size V w' ∧ Ints w' ra sh.l ∧ ∀ p, ra = some p → V.heap.size ≤ p.block) := Lib.hid fun V hV => (HEf.out V hV.i).mono fun e w' h => by
      obtain ⟨ra, rc, s2, h1, h2, h3⟩ := h
      obtain ⟨h4, h5, _, h6⟩ := h3 HEr.out
      have h7 : s2 = sh := h4.trans HSh.out
      subst h7
      rw [HEr.out] at h1
      exact ⟨ra, rc, h1, h2, h5, h6⟩
    clear HEf
    rw [HMa.out] at HHO HEf2
    go_cut [12, 11] (fun s12 s11 wx => ∃ t12 ra rc, s12 = .pointer (some ⟨t12, 0, none⟩) ∧ s11 = .int .i64 0 ∧ ShJ K X lo k t10 t12 ra rc sh w wx)
    case first =>
      have HBd : Hid (ShK K X lo k t10 w W5.drew) := Lib.hid (HI5.out.below (Below.refl _ _).drew)
      clear HI5
      refine region_e 13 (fun w' => w'.cell? ⟨w.heap.size, 0, none⟩ = some (.slice K.A.pa K.P.np K.A.pc) ∧ w'.cell? ⟨w.heap.size, 1, none⟩ = some (.slice K.A.ca K.P.nc K.A.cc) ∧ w'.cell? ⟨w.heap.size, 2, none⟩ = some (.slice (some ⟨bm, om, none⟩) K.P.nm K.A.mc) ∧ w'.cell? ⟨t10, 0, none⟩ = some (.int .i64 (K.D k : Nat)) ∧ w'.cell? ⟨t10, 1, none⟩ = some (.int .i64 (opA K.D k)) ∧ w'.cell? ⟨t10, 2, none⟩ = some (.int .i64 (opB K.D k)) ∧ w'.cell? ⟨t10, 3, none⟩ = some (.int .i64 (szK (kindO (K.D k)) : Nat)) ∧ w'.cell? ⟨K.rs, k * 2, none⟩ = some (.slice (X.a k) ((flowF K.P K.m).S k).l.length (X.c k)) ∧ w'.cell? ⟨K.rs, k * 2 + 1, none⟩ = some (.int .i64 ((flowF K.P K.m).S k).h)) (by kernel_rfl) (HHO.out _ HBd.out) (fun hHeld => ?_)
      generalize W5.drew = u0 at hHeld HBd ⊢
      refine AnyE.take2 (i := 0) [] (oi := { dst := some 89, op := Go.Op.load 26 (Go.Operand.tmp 2), type := 26, pos := "law.go:112", after := #[], guard := none }) (v := ?_) rfl (by kernel_rfl) (by kernel_rfl) (by kernel_rfl) (by kernel_rfl) (fun _ _ _ h => h) (Or.inl ⟨by rfl, ?_⟩) (by assumption) ?_
      rotate_left
      · (intro w0 hSw; (try dsimp only at hSw); go_split_ands; go_simp; with_reducible rfl)
      try simp only [Act.put, List.setIfInBounds_toArray, List.set_cons_zero, List.set_cons_succ]
      refine AnyE.take2 (i := 1) [] (oi := { dst := some 90, op := Go.Op.move (Go.Operand.tmp 1), type := 3, pos := "law.go:112", after := #[], guard := none }) (v := ?_) rfl (by kernel_rfl) (by kernel_rfl) (by kernel_rfl) (by kernel_rfl) (fun _ _ _ h => h) (Or.inl ⟨by rfl, ?_⟩) (by assumption) ?_
      rotate_left
      · (intro w0 hSw; (try dsimp only at hSw); go_split_ands; go_simp; with_reducible rfl)
      try simp only [Act.put, List.setIfInBounds_toArray, List.set_cons_zero, List.set_cons_succ]
      refine AnyE.take2 (i := 2) [] (oi := { dst := some 91, op := Go.Op.load 74 (Go.Operand.tmp 10), type := 74, pos := "law.go:112", after := #[], guard := none }) (v := ?_) rfl (by kernel_rfl) (by kernel_rfl) (by kernel_rfl) (by kernel_rfl) (fun _ _ _ h => h) (Or.inl ⟨by rfl, ?_⟩) (by assumption) ?_
      rotate_left
      · (intro w0 hSw; (try dsimp only at hSw); go_split_ands; go_simp; with_reducible rfl)
      try simp only [Act.put, List.setIfInBounds_toArray, List.set_cons_zero, List.set_cons_succ]
      refine AnyE.take2 (i := 3) [] (oi := { dst := some 92, op := Go.Op.move (Go.Operand.tmp 5), type := 62, pos := "law.go:112", after := #[], guard := none }) (v := ?_) rfl (by kernel_rfl) (by kernel_rfl) (by kernel_rfl) (by kernel_rfl) (fun _ _ _ h => h) (Or.inl ⟨by rfl, ?_⟩) (by assumption) ?_
      rotate_left
      · (intro w0 hSw; (try dsimp only at hSw); go_split_ands; go_simp; with_reducible rfl)
      try simp only [Act.put, List.setIfInBounds_toArray, List.set_cons_zero, List.set_cons_succ]
      refine AnyE.take2 (i := 4) [] (oi := { dst := some 93, op := Go.Op.move (Go.Operand.tmp 9), type := 3, pos := "law.go:112", after := #[], guard := none }) (v := ?_) rfl (by kernel_rfl) (by kernel_rfl) (by kernel_rfl) (by kernel_rfl) (fun _ _ _ h => h) (Or.inl ⟨by rfl, ?_⟩) (by assumption) ?_
      rotate_left
      · (intro w0 hSw; (try dsimp only at hSw); go_split_ands; go_simp; with_reducible rfl)
      try simp only [Act.put, List.setIfInBounds_toArray, List.set_cons_zero, List.set_cons_succ]
      refine AnyE.take2 (i := 5) [] (oi := { dst := some 94, op := Go.Op.indexAddr 62 (Go.Operand.tmp 92) (Go.Operand.tmp 93), type := 0, pos := "law.go:112", after := #[{ on := 3, ground := Go.Ground.data }, { on := 4, ground := Go.Ground.data }], guard := none }) (v := ?_) rfl (by kernel_rfl) (by kernel_rfl) (by kernel_rfl) (by kernel_rfl) (fun _ _ _ h => h) (Or.inl ⟨by rfl, ?_⟩) (by assumption) ?_
      rotate_left
      · (intro w0 hSw; (try dsimp only at hSw); go_split_ands; go_simp; with_reducible rfl)
      try simp only [Act.put, List.setIfInBounds_toArray, List.set_cons_zero, List.set_cons_succ]
      refine AnyE.take2 (i := 6) [] (oi := { dst := some 95, op := Go.Op.load 71 (Go.Operand.tmp 94), type := 71, pos := "law.go:112", after := #[{ on := 5, ground := Go.Ground.data }], guard := none }) (v := ?_) rfl (by kernel_rfl) (by kernel_rfl) (by kernel_rfl) (by kernel_rfl) (fun _ _ _ h => h) (Or.inl ⟨by rfl, ?_⟩) (by assumption) ?_
      rotate_left
      · (intro w0 hSw; (try dsimp only at hSw); go_split_ands; go_simp; with_reducible rfl)
      try simp only [Act.put, List.setIfInBounds_toArray, List.set_cons_zero, List.set_cons_succ]
      refine AnyE.ready (rs := [7, 11]) (by kernel_rfl) (by simp) ?_
      refine AllE.cons (o := { dst := some 96, op := Go.Op.call { callee := Go.Callee.value (Go.Operand.func 32), args := #[Go.Operand.tmp 89, Go.Operand.tmp 90, Go.Operand.tmp 91, Go.Operand.tmp 95], argTypes := #[26, 3, 74, 71] }, type := 77, pos := "law.go:112", after := #[{ on := 0, ground := Go.Ground.data }, { on := 1, ground := Go.Ground.data }, { on := 2, ground := Go.Ground.data }, { on := 6, ground := Go.Ground.data }], guard := none }) rfl (fun KK hKK => ?_) (AllE.cons (o := { dst := some 12, op := Go.Op.alloc 71, type := 0, pos := "law.go:112", after := #[], guard := none }) rfl (fun KK hKK => ?_) AllE.nil)
      · go_simp
        go_at_call 32
        refine (HEf2.out _ HBd.out).mono ?_
        rintro e u1 ⟨ra, rc, rfl, hb5, he5, hf5⟩
        have HE5 := Lib.hid (And.intro he5 hf5)
        have HB5 := Lib.hid hb5
        clear he5 hb5 hf5
        have HBu := Lib.hid (HBd.out.below HB5.out)
        refine hKK.out _ _ (HHO.out _ HBu.out) (fun hHeld => ?_)
        clear hKK KK
        try simp only [Act.put, List.setIfInBounds_toArray, List.set_cons_zero, List.set_cons_succ]
        refine AnyE.take2 (i := 8) [] (oi := { dst := some 88, op := Go.Op.move (Go.Operand.tmp 96), type := 77, pos := "law.go:112", after := #[{ on := 7, ground := Go.Ground.data }], guard := none }) (v := ?_) rfl (by kernel_rfl) (by kernel_rfl) (by kernel_rfl) (by kernel_rfl) (fun _ _ _ h => h) (Or.inl ⟨by rfl, ?_⟩) (by assumption) ?_
        rotate_left
        · (intro w0 hSw; (try dsimp only at hSw); go_split_ands; go_simp; with_reducible rfl)
        try simp only [Act.put, List.setIfInBounds_toArray, List.set_cons_zero, List.set_cons_succ]
        refine AnyE.take2 (i := 9) [] (oi := { dst := some 97, op := Go.Op.extract (Go.Operand.tmp 88) 0, type := 71, pos := "law.go:112", after := #[{ on := 8, ground := Go.Ground.data }], guard := none }) (v := ?_) rfl (by kernel_rfl) (by kernel_rfl) (by kernel_rfl) (by kernel_rfl) (fun _ _ _ h => h) (Or.inl ⟨by rfl, ?_⟩) (by assumption) ?_
        rotate_left
        · (intro w0 hSw; (try dsimp only at hSw); go_split_ands; go_simp; with_reducible rfl)
        try simp only [Act.put, List.setIfInBounds_toArray, List.set_cons_zero, List.set_cons_succ]
        refine AnyE.take2 (i := 10) [] (oi := { dst := some 98, op := Go.Op.extract (Go.Operand.tmp 88) 1, type := 30, pos := "law.go:112", after := #[{ on := 8, ground := Go.Ground.data }, { on := 12, ground := Go.Ground.gcOnly Go.Departure.lateStores }], guard := none }) (v := ?_) rfl (by kernel_rfl) (by kernel_rfl) (by kernel_rfl) (by kernel_rfl) (fun _ _ _ h => h) (Or.inl ⟨by rfl, ?_⟩) (by assumption) ?_
        rotate_left
        · (intro w0 hSw; (try dsimp only at hSw); go_split_ands; go_simp; with_reducible rfl)
        try simp only [Act.put, List.setIfInBounds_toArray, List.set_cons_zero, List.set_cons_succ]
        refine AnyE.ready (rs := [11]) (by kernel_rfl) (by simp) ?_
        refine AllE.cons (o := { dst := some 12, op := Go.Op.alloc 71, type := 0, pos := "law.go:112", after := #[], guard := none }) rfl (fun KK hKK => ?_) AllE.nil
        go_simp
        obtain ⟨V, t12, hV, ht, hC, hb3⟩ := ShK.make HBu.out
        rw [← hV, ← ht]
        have HC := Lib.hid hC
        have HV := Lib.hid (And.intro hb3 ht)
        clear hC hV hb3 ht
        have HCu := HC
        refine hKK.out _ _ (HHO.out _ (HBu.out.below HV.out.1)) (fun hHeld => ?_)
        clear hKK KK
        try simp only [Act.put, List.setIfInBounds_toArray, List.set_cons_zero, List.set_cons_succ]
        have z0 : V.cell? ⟨t12, 0, none⟩ = some (.slice none 0 0) := HCu.out.cell 0
        have z1 : V.cell? ⟨t12, 1, none⟩ = some (.int .i64 0) := HCu.out.cell 1
        have y0 : V.frozen? ⟨t12, 0, none⟩ = false := HCu.out.frz 0
        have y1 : V.frozen? ⟨t12, 1, none⟩ = false := HCu.out.frz 1
        refine AnyE.ready (rs := [12]) (by kernel_rfl) (by simp) ?_
        refine AllE.cons (o := { dst := none, op := Go.Op.store 71 (Go.Operand.tmp 12) (Go.Operand.tmp 97), type := 0, pos := "law.go:112", after := #[{ on := 11, ground := Go.Ground.data }, { on := 9, ground := Go.Ground.data }, { on := 7, ground := Go.Ground.chain }, { on := 0, ground := Go.Ground.phase }, { on := 1, ground := Go.Ground.phase }, { on := 2, ground := Go.Ground.phase }, { on := 3, ground := Go.Ground.phase }, { on := 4, ground := Go.Ground.phase }, { on := 5, ground := Go.Ground.phase }, { on := 6, ground := Go.Ground.phase }, { on := 7, ground := Go.Ground.phase }, { on := 8, ground := Go.Ground.phase }, { on := 9, ground := Go.Ground.phase }, { on := 10, ground := Go.Ground.textOnly Go.Departure.lateStores }, { on := 11, ground := Go.Ground.phase }], guard := none }) rfl (fun KK hKK => ?_) AllE.nil
        go_simp
        clear z0 z1 y0 y1
        have HS9 : Hid (ShK K X lo k t10 w ((V.setCell ⟨t12, 0, none⟩ (.slice ra sh.l.length rc)).setCell ⟨t12, 1, none⟩ (.int .i64 sh.h))) := Lib.hid (HBu.out.below (below_set2 HV.out.1 (Nat.le_of_eq HV.out.2.symm) _ _))
        have HQ : Hid (ShJ K X lo k t10 t12 ra rc sh w ((V.setCell ⟨t12, 0, none⟩ (.slice ra sh.l.length rc)).setCell ⟨t12, 1, none⟩ (.int .i64 sh.h))) := Lib.hid ⟨HS9.out.i, HS9.out.x, (HCu.out.set 0 (.slice ra sh.l.length rc)).set 1 (.int .i64 sh.h), HE5.out.1.kept (Kept.of (below_set2 HV.out.1 (Nat.le_of_eq HV.out.2.symm) _ _))⟩
        generalize ((V.setCell ⟨t12, 0, none⟩ (.slice ra sh.l.length rc)).setCell ⟨t12, 1, none⟩ (.int .i64 sh.h)) = u9 at HQ HS9 ⊢
        refine hKK.out _ _ (HHO.out _ HS9.out) (fun hHeld => ?_)
        clear hKK KK
        try simp only [Act.put, List.setIfInBounds_toArray, List.set_cons_zero, List.set_cons_succ]
        refine AnyE.ready (rs := [13]) (by kernel_rfl) (by simp) ?_
        refine AllE.last (o := { dst := some 11, op := Go.Op.assign (Go.Operand.tmp 98), type := 30, pos := "law.go:112", after := #[{ on := 10, ground := Go.Ground.data }, { on := 12, ground := Go.Ground.chain }, { on := 0, ground := Go.Ground.phase }, { on := 1, ground := Go.Ground.phase }, { on := 2, ground := Go.Ground.phase }, { on := 3, ground := Go.Ground.phase }, { on := 4, ground := Go.Ground.phase }, { on := 5, ground := Go.Ground.phase }, { on := 6, ground := Go.Ground.phase }, { on := 7, ground := Go.Ground.phase }, { on := 8, ground := Go.Ground.phase }, { on := 9, ground := Go.Ground.phase }, { on := 10, ground := Go.Ground.phase }, { on := 11, ground := Go.Ground.phase }, { on := 12, ground := Go.Ground.phase }], guard := none }) rfl (by kernel_rfl) (fun KK hKK => ?_)
        go_simp
        refine hKK.out _ _ ?_
        clear hKK KK
        try simp only [Act.put, List.setIfInBounds_toArray, List.set_cons_zero, List.set_cons_succ]
        go_wp2_with fail
        go_meet
        case rel => exact ⟨t12, ra, rc, rfl, rfl, HQ.out⟩
      · go_simp
        obtain ⟨V, t12, hV, ht, hC, hb3⟩ := ShK.make HBd.out
        rw [← hV, ← ht]
        have HC := Lib.hid hC
        have HV := Lib.hid (And.intro hb3 ht)
        clear hC hV hb3 ht
        refine hKK.out _ _ (HHO.out _ (HBd.out.below HV.out.1)) (fun hHeld => ?_)
        clear hKK KK
        try simp only [Act.put, List.setIfInBounds_toArray, List.set_cons_zero, List.set_cons_succ]
        refine AnyE.ready (rs := [7]) (by kernel_rfl) (by simp) ?_
        refine AllE.cons (o := { dst := some 96, op := Go.Op.call { callee := Go.Callee.value (Go.Operand.func 32), args := #[Go.Operand.tmp 89, Go.Operand.tmp 90, Go.Operand.tmp 91, Go.Operand.tmp 95], argTypes := #[26, 3, 74, 71] }, type := 77, pos := "law.go:112", after := #[{ on := 0, ground := Go.Ground.data }, { on := 1, ground := Go.Ground.data }, { on := 2, ground := Go.Ground.data }, { on := 6, ground := Go.Ground.data }], guard := none }) rfl (fun KK hKK => ?_) AllE.nil
        go_simp
        go_at_call 32
        refine (HEf2.out _ (HBd.out.below HV.out.1)).mono ?_
        rintro e u1 ⟨ra, rc, rfl, hb5, he5, hf5⟩
        have HE5 := Lib.hid (And.intro he5 hf5)
        have HB5 := Lib.hid hb5
        clear he5 hb5 hf5
        have HCu := Lib.hid (HC.out.below HB5.out)
        refine hKK.out _ _ (HHO.out _ ((HBd.out.below HV.out.1).below HB5.out)) (fun hHeld => ?_)
        clear hKK KK
        try simp only [Act.put, List.setIfInBounds_toArray, List.set_cons_zero, List.set_cons_succ]
        refine AnyE.take2 (i := 8) [] (oi := { dst := some 88, op := Go.Op.move (Go.Operand.tmp 96), type := 77, pos := "law.go:112", after := #[{ on := 7, ground := Go.Ground.data }], guard := none }) (v := ?_) rfl (by kernel_rfl) (by kernel_rfl) (by kernel_rfl) (by kernel_rfl) (fun _ _ _ h => h) (Or.inl ⟨by rfl, ?_⟩) (by assumption) ?_
        rotate_left
        · (intro w0 hSw; (try dsimp only at hSw); go_split_ands; go_simp; with_reducible rfl)
        try simp only [Act.put, List.setIfInBounds_toArray, List.set_cons_zero, List.set_cons_succ]
        refine AnyE.take2 (i := 9) [] (oi := { dst := some 97, op := Go.Op.extract (Go.Operand.tmp 88) 0, type := 71, pos := "law.go:112", after := #[{ on := 8, ground := Go.Ground.data }], guard := none }) (v := ?_) rfl (by kernel_rfl) (by kernel_rfl) (by kernel_rfl) (by kernel_rfl) (fun _ _ _ h => h) (Or.inl ⟨by rfl, ?_⟩) (by assumption) ?_
        rotate_left
        · (intro w0 hSw; (try dsimp only at hSw); go_split_ands; go_simp; with_reducible rfl)
        try simp only [Act.put, List.setIfInBounds_toArray, List.set_cons_zero, List.set_cons_succ]
        refine AnyE.take2 (i := 10) [] (oi := { dst := some 98, op := Go.Op.extract (Go.Operand.tmp 88) 1, type := 30, pos := "law.go:112", after := #[{ on := 8, ground := Go.Ground.data }, { on := 12, ground := Go.Ground.gcOnly Go.Departure.lateStores }], guard := none }) (v := ?_) rfl (by kernel_rfl) (by kernel_rfl) (by kernel_rfl) (by kernel_rfl) (fun _ _ _ h => h) (Or.inl ⟨by rfl, ?_⟩) (by assumption) ?_
        rotate_left
        · (intro w0 hSw; (try dsimp only at hSw); go_split_ands; go_simp; with_reducible rfl)
        try simp only [Act.put, List.setIfInBounds_toArray, List.set_cons_zero, List.set_cons_succ]
        have z0 : u1.cell? ⟨t12, 0, none⟩ = some (.slice none 0 0) := HCu.out.cell 0
        have z1 : u1.cell? ⟨t12, 1, none⟩ = some (.int .i64 0) := HCu.out.cell 1
        have y0 : u1.frozen? ⟨t12, 0, none⟩ = false := HCu.out.frz 0
        have y1 : u1.frozen? ⟨t12, 1, none⟩ = false := HCu.out.frz 1
        refine AnyE.ready (rs := [12]) (by kernel_rfl) (by simp) ?_
        refine AllE.cons (o := { dst := none, op := Go.Op.store 71 (Go.Operand.tmp 12) (Go.Operand.tmp 97), type := 0, pos := "law.go:112", after := #[{ on := 11, ground := Go.Ground.data }, { on := 9, ground := Go.Ground.data }, { on := 7, ground := Go.Ground.chain }, { on := 0, ground := Go.Ground.phase }, { on := 1, ground := Go.Ground.phase }, { on := 2, ground := Go.Ground.phase }, { on := 3, ground := Go.Ground.phase }, { on := 4, ground := Go.Ground.phase }, { on := 5, ground := Go.Ground.phase }, { on := 6, ground := Go.Ground.phase }, { on := 7, ground := Go.Ground.phase }, { on := 8, ground := Go.Ground.phase }, { on := 9, ground := Go.Ground.phase }, { on := 10, ground := Go.Ground.textOnly Go.Departure.lateStores }, { on := 11, ground := Go.Ground.phase }], guard := none }) rfl (fun KK hKK => ?_) AllE.nil
        go_simp
        clear z0 z1 y0 y1
        have HS9 : Hid (ShK K X lo k t10 w ((u1.setCell ⟨t12, 0, none⟩ (.slice ra sh.l.length rc)).setCell ⟨t12, 1, none⟩ (.int .i64 sh.h))) := Lib.hid (HBd.out.below (below_set2 (HV.out.1.trans (HB5.out.mono HV.out.1.size)) (Nat.le_of_eq HV.out.2.symm) _ _))
        have HQ : Hid (ShJ K X lo k t10 t12 ra rc sh w ((u1.setCell ⟨t12, 0, none⟩ (.slice ra sh.l.length rc)).setCell ⟨t12, 1, none⟩ (.int .i64 sh.h))) := Lib.hid ⟨HS9.out.i, HS9.out.x, (HCu.out.set 0 (.slice ra sh.l.length rc)).set 1 (.int .i64 sh.h), (HE5.out.1.far (fun p hp => by have := HE5.out.2 p hp; have := HC.out.lt; omega) 0 (.slice ra sh.l.length rc)).far (fun p hp => by have := HE5.out.2 p hp; have := HC.out.lt; omega) 1 (.int .i64 sh.h)⟩
        generalize ((u1.setCell ⟨t12, 0, none⟩ (.slice ra sh.l.length rc)).setCell ⟨t12, 1, none⟩ (.int .i64 sh.h)) = u9 at HQ HS9 ⊢
        refine hKK.out _ _ (HHO.out _ HS9.out) (fun hHeld => ?_)
        clear hKK KK
        try simp only [Act.put, List.setIfInBounds_toArray, List.set_cons_zero, List.set_cons_succ]
        refine AnyE.ready (rs := [13]) (by kernel_rfl) (by simp) ?_
        refine AllE.last (o := { dst := some 11, op := Go.Op.assign (Go.Operand.tmp 98), type := 30, pos := "law.go:112", after := #[{ on := 10, ground := Go.Ground.data }, { on := 12, ground := Go.Ground.chain }, { on := 0, ground := Go.Ground.phase }, { on := 1, ground := Go.Ground.phase }, { on := 2, ground := Go.Ground.phase }, { on := 3, ground := Go.Ground.phase }, { on := 4, ground := Go.Ground.phase }, { on := 5, ground := Go.Ground.phase }, { on := 6, ground := Go.Ground.phase }, { on := 7, ground := Go.Ground.phase }, { on := 8, ground := Go.Ground.phase }, { on := 9, ground := Go.Ground.phase }, { on := 10, ground := Go.Ground.phase }, { on := 11, ground := Go.Ground.phase }, { on := 12, ground := Go.Ground.phase }], guard := none }) rfl (by kernel_rfl) (fun KK hKK => ?_)
        go_simp
        refine hKK.out _ _ ?_
        clear hKK KK
        try simp only [Act.put, List.setIfInBounds_toArray, List.set_cons_zero, List.set_cons_succ]
        go_wp2_with fail
        go_meet
        case rel => exact ⟨t12, ra, rc, rfl, rfl, HQ.out⟩
    case rest =>
      obtain ⟨t12, ra, rc, rfl, rfl, hj⟩ := hcut
      have HJ := Lib.hid hj
      clear hj HHO HEf2 HI5
      have x2 : wc.cell? ⟨w.heap.size, 2, none⟩ = some (.slice (some ⟨bm, om, none⟩) K.P.nm K.A.mc) := by rw [← HMa.out]; exact HJ.out.i.p.cell 2
      have m3 : wc.cell? ⟨bm, om + K.m * 5 + 3, none⟩ = some (.int .i64 (K.P.sk K.m)) := (HM4.out wc HJ.out.i.l).2
      have c60 : wc.cell? ⟨t12, 0, none⟩ = some (.slice ra sh.l.length rc) := HJ.out.y.cell 0
      have d5 := HD5.out
      go_wp2_with fail
      go_quiet (fail)
      obtain ⟨V, hV⟩ : ∃ V, V = wc.drewN nq := ⟨_, rfl⟩
      have HJV : Hid (ShJ K X lo k t10 t12 ra rc sh w V) := Lib.hid (HJ.out.below (hV ▸ below_drewN (Below.refl _ _) _))
      rw [← hV]
      clear hV x2 m3 c60 HJ d5
      obtain ⟨c, hc⟩ : ∃ q, K.D k = q := ⟨_, rfl⟩
      obtain ⟨sz, hsz⟩ : ∃ q, szK (kindO (K.D k)) = q := ⟨_, rfl⟩
      obtain ⟨av, hav⟩ : ∃ q, opA K.D k = q := ⟨_, rfl⟩
      have HFa : Hid (∀ V, ShJ K X lo k t10 t12 ra rc sh w V → V.cell? ⟨t10, 0, none⟩ = some (.int .i64 (c : Nat)) ∧ V.cell? ⟨t10, 1, none⟩ = some (.int .i64 av) ∧ V.cell? ⟨t10, 3, none⟩ = some (.int .i64 (sz : Nat))) := Lib.hid fun V h => by
        rw [← hc, ← hav, ← hsz]
        exact ⟨h.x.cell 0, h.x.cell 1, h.x.cell 3⟩
      have hnx2 : k + sz ≤ K.n := by rw [← hsz]; exact hnx
      have HC1 : Hid (onB c = true → ∃ t : Nat, (k : Int) + (sz : Int) = (t : Int) ∧ t < K.n ∧ (flowF K.P K.m).H t = true ∧ (flowF K.P K.m).S t = sh) := Lib.hid fun q => by
        obtain ⟨h1, h2, h3⟩ := HOn.out (by rw [hc]; exact q)
        have h4 : nxt K.D k = k + sz := by unfold nxt; rw [hsz]
        rw [h4] at h1 h2 h3
        exact ⟨k + sz, by omega, by omega, h2, h3⟩
      have HC2 : Hid (jumpB c = true → ∃ t : Nat, (k : Int) + av = (t : Int) ∧ t < K.n ∧ (flowF K.P K.m).H t = true ∧ (flowF K.P K.m).S t = sh) := Lib.hid fun q => by
        obtain ⟨h2, h3⟩ := HJp.out (by rw [hc]; exact q)
        obtain ⟨h4, h5⟩ := HJm.out (by rw [hc]; exact q)
        have h6 : (k : Int) + opA K.D k = ((jmp K.D k : Nat) : Int) := by unfold jmp; omega
        rw [hav] at h6
        exact ⟨_, h6, h5, h2, h3⟩
      have HIn : Hid (∀ (t : Nat), t < K.n → (flowF K.P K.m).S t = sh → ∀ V, ShJ K X lo k t10 t12 ra rc sh w V → Calls Try.prog 30 #[.slice (X.a t) sh.l.length (X.c t), .slice ra sh.l.length rc] V fun e w' => e = .returned (.bool true) ∧ Below V.heap.size V w') := Lib.hid fun t ht hS V hV => ints_c (X.a t) ra (X.c t) rc sh.l V (hS ▸ hV.i.f.ti t ht) hV.n (by omega)
      have HHO2 : Hid (∀ (t : Nat), t < K.n → (flowF K.P K.m).H t = true → (flowF K.P K.m).S t = sh → ∀ V, ShJ K X lo k t10 t12 ra rc sh w V → V.cell? ⟨K.rh, t, none⟩ = some (.bool true) ∧ V.cell? ⟨K.rs, t * 2, none⟩ = some (.slice (X.a t) sh.l.length (X.c t)) ∧ V.cell? ⟨K.rs, t * 2 + 1, none⟩ = some (.int .i64 sh.h) ∧ V.cell? ⟨t12, 0, none⟩ = some (.slice ra sh.l.length rc) ∧ V.cell? ⟨t12, 1, none⟩ = some (.int .i64 sh.h)) := Lib.hid fun t ht hH hS V h => ⟨(h.i.f.h.cell ht).trans (by rw [hH]), by
        have e := h.i.f.s.cell (k := t) (j := 0) ht (by omega)
        unfold shF at e
        rw [hS] at e
        exact e, by
        have e := h.i.f.s.cell (k := t) (j := 1) ht (by omega)
        unfold shF at e
        rw [hS] at e
        exact e, h.y.cell 0, h.y.cell 1⟩
      have hcb : c < 41 := by rw [← hc]; exact hD41
      obtain ⟨g0, g1, g3⟩ := HFa.out V HJV.out
      clear hc hsz hav hnx HSh HEr HOn HJp HJm hD41
      have hsc : (k : Int) + (sz : Int) ≤ K.n := by omega
      by_cases h25 : c = 25
      · subst h25
        obtain ⟨t2, hz2, ht2, hH2, hS2⟩ := HC2.out rfl
        have HOL : Hid (OnL K sh [(k : Int) + av]) := Lib.hid fun z hz => by
          rcases List.mem_cons.1 hz with rfl | hz
          · exact ⟨t2, hz2, ht2, hH2, hS2⟩
          · cases hz
        have b0 : 0 ≤ (k : Int) + av := by omega
        have b1 : (k : Int) + av < K.n := by omega
        clear hz2 ht2 hH2 hS2
        obtain ⟨a1, c1, V1, hr1, ho1, hb1⟩ := app_one V V.heap.size 0 (.slice none 0 0) [] ((k : Int) + av) (World.ownsRow_nil _ _ _ _) (by omega) (Nat.le_refl _)
        rw [Nat.zero_add] at hr1 ho1
        have HRun1 := Lib.hid hr1
        have HJ1 : Hid (ShJ K X lo k t10 t12 ra rc sh w V1) := Lib.hid (HJV.out.below hb1)
        have HL1 : Hid (Ints V1 a1 [(k : Int) + av]) := Lib.hid (Ints.own ho1 rfl)
        obtain ⟨h0, h1, h3⟩ := HFa.out V1 HJ1.out
        have HO1 := Lib.hid (And.intro ho1 hb1)
        clear hr1 ho1 hb1
        go_wp2_with (at_builtin; first | refine Lib.wpList_append_run _ rfl _ _ _ _ rfl _ _ rfl rfl _ _ HRun1.out ?_ )
        clear g0 g1 g3 h0 h1 h3 HRun1 b0 b1
        have HJL := HJ1
        have HLL := HL1
        go_loopw [14] (fun i wr => ∃ q : Nat, q ≤ 1 ∧ i = .int .i64 q ∧ Hid (ShJ K X lo k t10 t12 ra rc sh w wr) ∧ Hid (Ints wr a1 [(k : Int) + av])) (fun i _ => 1 - (intOf i).toNat)
        case atStart => exact ⟨0, Nat.zero_le _, rfl, HJL, HLL⟩
        case round =>
          obtain ⟨q, hq, rfl, HJr, HLr⟩ := hrel
          by_cases hqn : q < 1
          case neg =>
            have hq2 : q = 1 := by omega
            subst hq2
            go_wp2
            exact HNext.out _ HJr.out.i
          obtain ⟨t, hz, htn, htH, htS⟩ := HOL.out ([(k : Int) + av].getD q 0) (getD_mem hqn)
          obtain ⟨b3, o3, ha3, hb3, hc3⟩ := HLr.out.at (by show 0 < 1; omega)
          subst ha3
          have y : wr.cell? ⟨b3, o3 + q, none⟩ = some (.int .i64 (t : Int)) := (hc3 q hqn).trans (by rw [hz])
          have e0 : decide ((t : Int) < 0) = false := decide_eq_false (by omega)
          have e1 : decide ((K.n : Int) ≤ (t : Int)) = false := decide_eq_false (by omega)
          have e2 : decide (K.n ≤ t) = false := decide_eq_false (by omega)
          have e3 : (sh.h != sh.h) = false := by simp
          have hti : (t : Int) < K.n := by omega
          have hqi : (q : Int) < 1 := by omega
          clear hz hb3 hc3
          go_wp2_with fail
          have HJd : Hid (ShJ K X lo k t10 t12 ra rc sh w wr.drew) := Lib.hid (HJr.out.below (Below.refl _ _).drew)
          have HLd : Hid (Ints wr.drew (some ⟨b3, o3, none⟩) [(k : Int) + av]) := Lib.hid (HLr.out.kept (Kept.of (Below.refl _ _).drew))
          clear y HJr HLr
          have HHt := Lib.hid (HHO2.out t htn htH htS)
          have HInt := Lib.hid (HIn.out t htn htS)
          clear htH htS
          refine region_e 35 (fun w' => w'.cell? ⟨K.rh, t, none⟩ = some (.bool true) ∧ w'.cell? ⟨K.rs, t * 2, none⟩ = some (.slice (X.a t) sh.l.length (X.c t)) ∧ w'.cell? ⟨K.rs, t * 2 + 1, none⟩ = some (.int .i64 sh.h) ∧ w'.cell? ⟨t12, 0, none⟩ = some (.slice ra sh.l.length rc) ∧ w'.cell? ⟨t12, 1, none⟩ = some (.int .i64 sh.h)) (by kernel_rfl) (HHt.out _ HJd.out) (fun hHeld => ?_)
          generalize wr.drew = u0 at hHeld HJd HLd ⊢
          refine AnyE.take2 (i := 0) [26, 25, 15, 8, 2, 1] (oi := { dst := some 153, op := Go.Op.move (Go.Operand.tmp 15), type := 3, pos := "law.go:125", after := #[], guard := none }) (v := ?_) rfl (by kernel_rfl) (by kernel_rfl) (by kernel_rfl) (by kernel_rfl) (fun _ _ _ h => h) (Or.inl ⟨by rfl, ?_⟩) (by assumption) ?_
          rotate_left
          · (intro w0 hSw; (try dsimp only at hSw); go_split_ands; go_simp; with_reducible rfl)
          try simp only [Act.put, List.setIfInBounds_toArray, List.set_cons_zero, List.set_cons_succ]
          refine AnyE.take2 (i := 1) [26, 25, 15, 8, 2] (oi := { dst := some 154, op := Go.Op.binOp Go.BinOp.lss 3 (Go.Operand.tmp 153) (Go.Operand.const (Go.Value.int Go.IntKind.i64 0)) 3, type := 4, pos := "law.go:125", after := #[{ on := 0, ground := Go.Ground.data }], guard := none }) (v := ?_) rfl (by kernel_rfl) (by kernel_rfl) (by kernel_rfl) (by kernel_rfl) (fun _ _ _ h => h) (Or.inl ⟨by rfl, ?_⟩) (by assumption) ?_
          rotate_left
          · (intro w0 hSw; (try dsimp only at hSw); go_split_ands; go_simp; with_reducible rfl)
          try simp only [Act.put, List.setIfInBounds_toArray, List.set_cons_zero, List.set_cons_succ]
          refine AnyE.take2 (i := 2) [26, 25, 15, 8] (oi := { dst := some 155, op := Go.Op.move (Go.Operand.tmp 154), type := 4, pos := "law.go:125", after := #[{ on := 1, ground := Go.Ground.data }], guard := none }) (v := ?_) rfl (by kernel_rfl) (by kernel_rfl) (by kernel_rfl) (by kernel_rfl) (fun _ _ _ h => h) (Or.inl ⟨by rfl, ?_⟩) (by assumption) ?_
          rotate_left
          · (intro w0 hSw; (try dsimp only at hSw); go_split_ands; go_simp; with_reducible rfl)
          try simp only [Act.put, List.setIfInBounds_toArray, List.set_cons_zero, List.set_cons_succ]
          refine AnyE.take2 (i := 3) [26, 25, 15, 8, 7, 6] (oi := { dst := some 156, op := Go.Op.move (Go.Operand.tmp 15), type := 3, pos := "law.go:125", after := #[{ on := 2, ground := Go.Ground.guard }], guard := some (2, false) }) (v := ?_) rfl (by kernel_rfl) (by kernel_rfl) (by kernel_rfl) (by kernel_rfl) (fun _ _ _ h => h) (Or.inl ⟨by rfl, ?_⟩) (by assumption) ?_
          rotate_left
          · (intro w0 hSw; (try dsimp only at hSw); go_split_ands; go_simp; with_reducible rfl)
          try simp only [Act.put, List.setIfInBounds_toArray, List.set_cons_zero, List.set_cons_succ]
          refine AnyE.take2 (i := 4) [26, 25, 15, 8, 7, 6, 5] (oi := { dst := some 157, op := Go.Op.move (Go.Operand.tmp 8), type := 29, pos := "law.go:125", after := #[{ on := 2, ground := Go.Ground.guard }], guard := some (2, false) }) (v := ?_) rfl (by kernel_rfl) (by kernel_rfl) (by kernel_rfl) (by kernel_rfl) (fun _ _ _ h => h) (Or.inl ⟨by rfl, ?_⟩) (by assumption) ?_
          rotate_left
          · (intro w0 hSw; (try dsimp only at hSw); go_split_ands; go_simp; with_reducible rfl)
          try simp only [Act.put, List.setIfInBounds_toArray, List.set_cons_zero, List.set_cons_succ]
          refine AnyE.take2 (i := 5) [26, 25, 15, 8, 7, 6] (oi := { dst := some 158, op := Go.Op.call { callee := Go.Callee.builtin Go.Builtin.len, args := #[Go.Operand.tmp 157], argTypes := #[29] }, type := 3, pos := "law.go:125", after := #[{ on := 4, ground := Go.Ground.data }, { on := 2, ground := Go.Ground.guard }], guard := some (2, false) }) (v := ?_) rfl (by kernel_rfl) (by kernel_rfl) (by kernel_rfl) (by kernel_rfl) (fun _ _ _ h => h) (Or.inl ⟨by rfl, ?_⟩) (by assumption) ?_
          rotate_left
          · (intro w0 hSw; (try dsimp only at hSw); go_split_ands; go_simp; with_reducible rfl)
          try simp only [Act.put, List.setIfInBounds_toArray, List.set_cons_zero, List.set_cons_succ]
          refine AnyE.take2 (i := 6) [26, 25, 15, 8, 7] (oi := { dst := some 159, op := Go.Op.binOp Go.BinOp.geq 3 (Go.Operand.tmp 156) (Go.Operand.tmp 158) 3, type := 4, pos := "law.go:125", after := #[{ on := 3, ground := Go.Ground.data }, { on := 5, ground := Go.Ground.data }, { on := 2, ground := Go.Ground.guard }], guard := some (2, false) }) (v := ?_) rfl (by kernel_rfl) (by kernel_rfl) (by kernel_rfl) (by kernel_rfl) (fun _ _ _ h => h) (Or.inl ⟨by rfl, ?_⟩) (by assumption) ?_
          rotate_left
          · (intro w0 hSw; (try dsimp only at hSw); go_split_ands; go_simp; with_reducible rfl)
          try simp only [Act.put, List.setIfInBounds_toArray, List.set_cons_zero, List.set_cons_succ]
          refine AnyE.take2 (i := 7) [26, 25, 15, 8] (oi := { dst := some 160, op := Go.Op.pick (Go.Operand.tmp 155) (Go.Operand.const (Go.Value.bool true)) (Go.Operand.tmp 159), type := 4, pos := "law.go:125", after := #[{ on := 2, ground := Go.Ground.data }, { on := 6, ground := Go.Ground.data }], guard := none }) (v := ?_) rfl (by kernel_rfl) (by kernel_rfl) (by kernel_rfl) (by kernel_rfl) (fun _ _ _ h => h) (Or.inl ⟨by rfl, ?_⟩) (by assumption) ?_
          rotate_left
          · (intro w0 hSw; (try dsimp only at hSw); go_split_ands; go_simp; with_reducible rfl)
          try simp only [Act.put, List.setIfInBounds_toArray, List.set_cons_zero, List.set_cons_succ]
          refine AnyE.take2 (i := 8) [26, 25, 15] (oi := { dst := some 161, op := Go.Op.move (Go.Operand.tmp 160), type := 4, pos := "law.go:125", after := #[{ on := 7, ground := Go.Ground.data }, { on := 2, ground := Go.Ground.chain }], guard := none }) (v := ?_) rfl (by kernel_rfl) (by kernel_rfl) (by kernel_rfl) (by kernel_rfl) (fun _ _ _ h => h) (Or.inl ⟨by rfl, ?_⟩) (by assumption) ?_
          rotate_left
          · (intro w0 hSw; (try dsimp only at hSw); go_split_ands; go_simp; with_reducible rfl)
          try simp only [Act.put, List.setIfInBounds_toArray, List.set_cons_zero, List.set_cons_succ]
          refine AnyE.take2 (i := 9) [26, 25, 15, 14, 13, 12, 11] (oi := { dst := some 162, op := Go.Op.move (Go.Operand.tmp 6), type := 63, pos := "law.go:125", after := #[{ on := 8, ground := Go.Ground.guard }], guard := some (8, false) }) (v := ?_) rfl (by kernel_rfl) (by kernel_rfl) (by kernel_rfl) (by kernel_rfl) (fun _ _ _ h => h) (Or.inl ⟨by rfl, ?_⟩) (by assumption) ?_
          rotate_left
          · (intro w0 hSw; (try dsimp only at hSw); go_split_ands; go_simp; with_reducible rfl)
          try simp only [Act.put, List.setIfInBounds_toArray, List.set_cons_zero, List.set_cons_succ]
          refine AnyE.take2 (i := 10) [26, 25, 15, 14, 13, 12, 11] (oi := { dst := some 163, op := Go.Op.move (Go.Operand.tmp 15), type := 3, pos := "law.go:125", after := #[{ on := 8, ground := Go.Ground.guard }], guard := some (8, false) }) (v := ?_) rfl (by kernel_rfl) (by kernel_rfl) (by kernel_rfl) (by kernel_rfl) (fun _ _ _ h => h) (Or.inl ⟨by rfl, ?_⟩) (by assumption) ?_
          rotate_left
          · (intro w0 hSw; (try dsimp only at hSw); go_split_ands; go_simp; with_reducible rfl)
          try simp only [Act.put, List.setIfInBounds_toArray, List.set_cons_zero, List.set_cons_succ]
          refine AnyE.take2 (i := 11) [26, 25, 15, 14, 13, 12] (oi := { dst := some 164, op := Go.Op.indexAddr 63 (Go.Operand.tmp 162) (Go.Operand.tmp 163), type := 0, pos := "law.go:125", after := #[{ on := 9, ground := Go.Ground.data }, { on := 10, ground := Go.Ground.data }, { on := 8, ground := Go.Ground.guard }], guard := some (8, false) }) (v := ?_) rfl (by kernel_rfl) (by kernel_rfl) (by kernel_rfl) (by kernel_rfl) (fun _ _ _ h => h) (Or.inl ⟨by rfl, ?_⟩) (by assumption) ?_
          rotate_left
          · (intro w0 hSw; (try dsimp only at hSw); go_split_ands; go_simp; with_reducible rfl)
          try simp only [Act.put, List.setIfInBounds_toArray, List.set_cons_zero, List.set_cons_succ]
          refine AnyE.take2 (i := 12) [26, 25, 15, 14, 13] (oi := { dst := some 165, op := Go.Op.load 4 (Go.Operand.tmp 164), type := 4, pos := "law.go:125", after := #[{ on := 11, ground := Go.Ground.data }, { on := 8, ground := Go.Ground.guard }], guard := some (8, false) }) (v := ?_) rfl (by kernel_rfl) (by kernel_rfl) (by kernel_rfl) (by kernel_rfl) (fun _ _ _ h => h) (Or.inl ⟨by rfl, ?_⟩) (by assumption) ?_
          rotate_left
          · (intro w0 hSw; (try dsimp only at hSw); go_split_ands; go_simp; with_reducible rfl)
          try simp only [Act.put, List.setIfInBounds_toArray, List.set_cons_zero, List.set_cons_succ]
          refine AnyE.take2 (i := 13) [26, 25, 15, 14] (oi := { dst := some 166, op := Go.Op.unOp Go.UnOp.not 4 (Go.Operand.tmp 165), type := 4, pos := "law.go:125", after := #[{ on := 12, ground := Go.Ground.data }, { on := 8, ground := Go.Ground.guard }], guard := some (8, false) }) (v := ?_) rfl (by kernel_rfl) (by kernel_rfl) (by kernel_rfl) (by kernel_rfl) (fun _ _ _ h => h) (Or.inl ⟨by rfl, ?_⟩) (by assumption) ?_
          rotate_left
          · (intro w0 hSw; (try dsimp only at hSw); go_split_ands; go_simp; with_reducible rfl)
          try simp only [Act.put, List.setIfInBounds_toArray, List.set_cons_zero, List.set_cons_succ]
          refine AnyE.take2 (i := 14) [26, 25, 15] (oi := { dst := some 167, op := Go.Op.pick (Go.Operand.tmp 161) (Go.Operand.const (Go.Value.bool true)) (Go.Operand.tmp 166), type := 4, pos := "law.go:125", after := #[{ on := 8, ground := Go.Ground.data }, { on := 13, ground := Go.Ground.data }], guard := none }) (v := ?_) rfl (by kernel_rfl) (by kernel_rfl) (by kernel_rfl) (by kernel_rfl) (fun _ _ _ h => h) (Or.inl ⟨by rfl, ?_⟩) (by assumption) ?_
          rotate_left
          · (intro w0 hSw; (try dsimp only at hSw); go_split_ands; go_simp; with_reducible rfl)
          try simp only [Act.put, List.setIfInBounds_toArray, List.set_cons_zero, List.set_cons_succ]
          refine AnyE.take2 (i := 15) [26, 25] (oi := { dst := some 168, op := Go.Op.move (Go.Operand.tmp 167), type := 4, pos := "law.go:125", after := #[{ on := 14, ground := Go.Ground.data }, { on := 8, ground := Go.Ground.chain }], guard := none }) (v := ?_) rfl (by kernel_rfl) (by kernel_rfl) (by kernel_rfl) (by kernel_rfl) (fun _ _ _ h => h) (Or.inl ⟨by rfl, ?_⟩) (by assumption) ?_
          rotate_left
          · (intro w0 hSw; (try dsimp only at hSw); go_split_ands; go_simp; with_reducible rfl)
          try simp only [Act.put, List.setIfInBounds_toArray, List.set_cons_zero, List.set_cons_succ]
          refine AnyE.take2 (i := 16) [26, 23, 20, 19, 18] (oi := { dst := some 169, op := Go.Op.move (Go.Operand.tmp 5), type := 62, pos := "law.go:125", after := #[{ on := 15, ground := Go.Ground.guard }], guard := some (15, false) }) (v := ?_) rfl (by kernel_rfl) (by kernel_rfl) (by kernel_rfl) (by kernel_rfl) (fun _ _ _ h => h) (Or.inl ⟨by rfl, ?_⟩) (by assumption) ?_
          rotate_left
          · (intro w0 hSw; (try dsimp only at hSw); go_split_ands; go_simp; with_reducible rfl)
          try simp only [Act.put, List.setIfInBounds_toArray, List.set_cons_zero, List.set_cons_succ]
          refine AnyE.take2 (i := 17) [26, 23, 20, 19, 18] (oi := { dst := some 170, op := Go.Op.move (Go.Operand.tmp 15), type := 3, pos := "law.go:125", after := #[{ on := 15, ground := Go.Ground.guard }], guard := some (15, false) }) (v := ?_) rfl (by kernel_rfl) (by kernel_rfl) (by kernel_rfl) (by kernel_rfl) (fun _ _ _ h => h) (Or.inl ⟨by rfl, ?_⟩) (by assumption) ?_
          rotate_left
          · (intro w0 hSw; (try dsimp only at hSw); go_split_ands; go_simp; with_reducible rfl)
          try simp only [Act.put, List.setIfInBounds_toArray, List.set_cons_zero, List.set_cons_succ]
          refine AnyE.take2 (i := 18) [26, 23, 20, 19] (oi := { dst := some 171, op := Go.Op.indexAddr 62 (Go.Operand.tmp 169) (Go.Operand.tmp 170), type := 0, pos := "law.go:125", after := #[{ on := 16, ground := Go.Ground.data }, { on := 17, ground := Go.Ground.data }, { on := 15, ground := Go.Ground.guard }], guard := some (15, false) }) (v := ?_) rfl (by kernel_rfl) (by kernel_rfl) (by kernel_rfl) (by kernel_rfl) (fun _ _ _ h => h) (Or.inl ⟨by rfl, ?_⟩) (by assumption) ?_
          rotate_left
          · (intro w0 hSw; (try dsimp only at hSw); go_split_ands; go_simp; with_reducible rfl)
          try simp only [Act.put, List.setIfInBounds_toArray, List.set_cons_zero, List.set_cons_succ]
          refine AnyE.take2 (i := 19) [26, 23, 20] (oi := { dst := some 172, op := Go.Op.fieldAddr 71 (Go.Operand.tmp 171) 0, type := 0, pos := "law.go:125", after := #[{ on := 18, ground := Go.Ground.data }, { on := 15, ground := Go.Ground.guard }], guard := some (15, false) }) (v := ?_) rfl (by kernel_rfl) (by kernel_rfl) (by kernel_rfl) (by kernel_rfl) (fun _ _ _ h => h) (Or.inl ⟨by rfl, ?_⟩) (by assumption) ?_
          rotate_left
          · (intro w0 hSw; (try dsimp only at hSw); go_split_ands; go_simp; with_reducible rfl)
          try simp only [Act.put, List.setIfInBounds_toArray, List.set_cons_zero, List.set_cons_succ]
          refine AnyE.take2 (i := 20) [26, 23] (oi := { dst := some 173, op := Go.Op.load 48 (Go.Operand.tmp 172), type := 48, pos := "law.go:125", after := #[{ on := 19, ground := Go.Ground.data }, { on := 15, ground := Go.Ground.guard }], guard := some (15, false) }) (v := ?_) rfl (by kernel_rfl) (by kernel_rfl) (by kernel_rfl) (by kernel_rfl) (fun _ _ _ h => h) (Or.inl ⟨by rfl, ?_⟩) (by assumption) ?_
          rotate_left
          · (intro w0 hSw; (try dsimp only at hSw); go_split_ands; go_simp; with_reducible rfl)
          try simp only [Act.put, List.setIfInBounds_toArray, List.set_cons_zero, List.set_cons_succ]
          refine AnyE.take2 (i := 21) [26, 23, 22] (oi := { dst := some 174, op := Go.Op.fieldAddr 71 (Go.Operand.tmp 12) 0, type := 0, pos := "law.go:125", after := #[{ on := 15, ground := Go.Ground.guard }], guard := some (15, false) }) (v := ?_) rfl (by kernel_rfl) (by kernel_rfl) (by kernel_rfl) (by kernel_rfl) (fun _ _ _ h => h) (Or.inl ⟨by rfl, ?_⟩) (by assumption) ?_
          rotate_left
          · (intro w0 hSw; (try dsimp only at hSw); go_split_ands; go_simp; with_reducible rfl)
          try simp only [Act.put, List.setIfInBounds_toArray, List.set_cons_zero, List.set_cons_succ]
          refine AnyE.take2 (i := 22) [26, 23] (oi := { dst := some 175, op := Go.Op.load 48 (Go.Operand.tmp 174), type := 48, pos := "law.go:125", after := #[{ on := 21, ground := Go.Ground.data }, { on := 15, ground := Go.Ground.guard }], guard := some (15, false) }) (v := ?_) rfl (by kernel_rfl) (by kernel_rfl) (by kernel_rfl) (by kernel_rfl) (fun _ _ _ h => h) (Or.inl ⟨by rfl, ?_⟩) (by assumption) ?_
          rotate_left
          · (intro w0 hSw; (try dsimp only at hSw); go_split_ands; go_simp; with_reducible rfl)
          try simp only [Act.put, List.setIfInBounds_toArray, List.set_cons_zero, List.set_cons_succ]
          refine AnyE.ready (rs := [23]) (by kernel_rfl) (by simp) ?_
          refine AllE.cons (o := { dst := some 176, op := Go.Op.call { callee := Go.Callee.value (Go.Operand.func 30), args := #[Go.Operand.tmp 173, Go.Operand.tmp 175], argTypes := #[48, 48] }, type := 4, pos := "law.go:125", after := #[{ on := 20, ground := Go.Ground.data }, { on := 22, ground := Go.Ground.data }, { on := 15, ground := Go.Ground.chain }, { on := 15, ground := Go.Ground.guard }], guard := some (15, false) }) rfl (fun KK hKK => ?_) AllE.nil
          go_simp
          go_at_call 30
          refine (HInt.out _ HJd.out).mono ?_
          rintro e u2 ⟨rfl, hb5⟩
          have HJu := Lib.hid (HJd.out.below hb5)
          have HLu : Hid (Ints u2 (some ⟨b3, o3, none⟩) [(k : Int) + av]) := Lib.hid (HLd.out.kept (Kept.of hb5))
          clear hb5
          refine hKK.out _ _ (HHt.out _ HJu.out) (fun hHeld => ?_)
          clear hKK KK
          try simp only [Act.put, List.setIfInBounds_toArray, List.set_cons_zero, List.set_cons_succ]
          refine AnyE.take2 (i := 24) [26, 25] (oi := { dst := some 177, op := Go.Op.unOp Go.UnOp.not 4 (Go.Operand.tmp 176), type := 4, pos := "law.go:125", after := #[{ on := 23, ground := Go.Ground.data }, { on := 15, ground := Go.Ground.guard }], guard := some (15, false) }) (v := ?_) rfl (by kernel_rfl) (by kernel_rfl) (by kernel_rfl) (by kernel_rfl) (fun _ _ _ h => h) (Or.inl ⟨by rfl, ?_⟩) (by assumption) ?_
          rotate_left
          · (intro w0 hSw; (try dsimp only at hSw); go_split_ands; go_simp; with_reducible rfl)
          try simp only [Act.put, List.setIfInBounds_toArray, List.set_cons_zero, List.set_cons_succ]
          refine AnyE.take2 (i := 25) [26] (oi := { dst := some 178, op := Go.Op.pick (Go.Operand.tmp 168) (Go.Operand.const (Go.Value.bool true)) (Go.Operand.tmp 177), type := 4, pos := "law.go:125", after := #[{ on := 15, ground := Go.Ground.data }, { on := 24, ground := Go.Ground.data }], guard := none }) (v := ?_) rfl (by kernel_rfl) (by kernel_rfl) (by kernel_rfl) (by kernel_rfl) (fun _ _ _ h => h) (Or.inl ⟨by rfl, ?_⟩) (by assumption) ?_
          rotate_left
          · (intro w0 hSw; (try dsimp only at hSw); go_split_ands; go_simp; with_reducible rfl)
          try simp only [Act.put, List.setIfInBounds_toArray, List.set_cons_zero, List.set_cons_succ]
          refine AnyE.take2 (i := 26) [] (oi := { dst := some 179, op := Go.Op.move (Go.Operand.tmp 178), type := 4, pos := "law.go:125", after := #[{ on := 25, ground := Go.Ground.data }, { on := 23, ground := Go.Ground.chain }], guard := none }) (v := ?_) rfl (by kernel_rfl) (by kernel_rfl) (by kernel_rfl) (by kernel_rfl) (fun _ _ _ h => h) (Or.inl ⟨by rfl, ?_⟩) (by assumption) ?_
          rotate_left
          · (intro w0 hSw; (try dsimp only at hSw); go_split_ands; go_simp; with_reducible rfl)
          try simp only [Act.put, List.setIfInBounds_toArray, List.set_cons_zero, List.set_cons_succ]
          refine AnyE.take2 (i := 27) [34, 31, 30, 29] (oi := { dst := some 180, op := Go.Op.move (Go.Operand.tmp 5), type := 62, pos := "law.go:125", after := #[{ on := 26, ground := Go.Ground.guard }], guard := some (26, false) }) (v := ?_) rfl (by kernel_rfl) (by kernel_rfl) (by kernel_rfl) (by kernel_rfl) (fun _ _ _ h => h) (Or.inl ⟨by rfl, ?_⟩) (by assumption) ?_
          rotate_left
          · (intro w0 hSw; (try dsimp only at hSw); go_split_ands; go_simp; with_reducible rfl)
          try simp only [Act.put, List.setIfInBounds_toArray, List.set_cons_zero, List.set_cons_succ]
          refine AnyE.take2 (i := 28) [34, 31, 30, 29] (oi := { dst := some 181, op := Go.Op.move (Go.Operand.tmp 15), type := 3, pos := "law.go:125", after := #[{ on := 26, ground := Go.Ground.guard }], guard := some (26, false) }) (v := ?_) rfl (by kernel_rfl) (by kernel_rfl) (by kernel_rfl) (by kernel_rfl) (fun _ _ _ h => h) (Or.inl ⟨by rfl, ?_⟩) (by assumption) ?_
          rotate_left
          · (intro w0 hSw; (try dsimp only at hSw); go_split_ands; go_simp; with_reducible rfl)
          try simp only [Act.put, List.setIfInBounds_toArray, List.set_cons_zero, List.set_cons_succ]
          refine AnyE.take2 (i := 29) [34, 31, 30] (oi := { dst := some 182, op := Go.Op.indexAddr 62 (Go.Operand.tmp 180) (Go.Operand.tmp 181), type := 0, pos := "law.go:125", after := #[{ on := 27, ground := Go.Ground.data }, { on := 28, ground := Go.Ground.data }, { on := 26, ground := Go.Ground.guard }], guard := some (26, false) }) (v := ?_) rfl (by kernel_rfl) (by kernel_rfl) (by kernel_rfl) (by kernel_rfl) (fun _ _ _ h => h) (Or.inl ⟨by rfl, ?_⟩) (by assumption) ?_
          rotate_left
          · (intro w0 hSw; (try dsimp only at hSw); go_split_ands; go_simp; with_reducible rfl)
          try simp only [Act.put, List.setIfInBounds_toArray, List.set_cons_zero, List.set_cons_succ]
          refine AnyE.take2 (i := 30) [34, 31] (oi := { dst := some 183, op := Go.Op.fieldAddr 71 (Go.Operand.tmp 182) 1, type := 0, pos := "law.go:125", after := #[{ on := 29, ground := Go.Ground.data }, { on := 26, ground := Go.Ground.guard }], guard := some (26, false) }) (v := ?_) rfl (by kernel_rfl) (by kernel_rfl) (by kernel_rfl) (by kernel_rfl) (fun _ _ _ h => h) (Or.inl ⟨by rfl, ?_⟩) (by assumption) ?_
          rotate_left
          · (intro w0 hSw; (try dsimp only at hSw); go_split_ands; go_simp; with_reducible rfl)
          try simp only [Act.put, List.setIfInBounds_toArray, List.set_cons_zero, List.set_cons_succ]
          refine AnyE.take2 (i := 31) [34] (oi := { dst := some 184, op := Go.Op.load 3 (Go.Operand.tmp 183), type := 3, pos := "law.go:125", after := #[{ on := 30, ground := Go.Ground.data }, { on := 26, ground := Go.Ground.guard }], guard := some (26, false) }) (v := ?_) rfl (by kernel_rfl) (by kernel_rfl) (by kernel_rfl) (by kernel_rfl) (fun _ _ _ h => h) (Or.inl ⟨by rfl, ?_⟩) (by assumption) ?_
          rotate_left
          · (intro w0 hSw; (try dsimp only at hSw); go_split_ands; go_simp; with_reducible rfl)
          try simp only [Act.put, List.setIfInBounds_toArray, List.set_cons_zero, List.set_cons_succ]
          refine AnyE.take2 (i := 32) [34, 33] (oi := { dst := some 185, op := Go.Op.fieldAddr 71 (Go.Operand.tmp 12) 1, type := 0, pos := "law.go:125", after := #[{ on := 26, ground := Go.Ground.guard }], guard := some (26, false) }) (v := ?_) rfl (by kernel_rfl) (by kernel_rfl) (by kernel_rfl) (by kernel_rfl) (fun _ _ _ h => h) (Or.inl ⟨by rfl, ?_⟩) (by assumption) ?_
          rotate_left
          · (intro w0 hSw; (try dsimp only at hSw); go_split_ands; go_simp; with_reducible rfl)
          try simp only [Act.put, List.setIfInBounds_toArray, List.set_cons_zero, List.set_cons_succ]
          refine AnyE.take2 (i := 33) [34] (oi := { dst := some 186, op := Go.Op.load 3 (Go.Operand.tmp 185), type := 3, pos := "law.go:125", after := #[{ on := 32, ground := Go.Ground.data }, { on := 26, ground := Go.Ground.guard }], guard := some (26, false) }) (v := ?_) rfl (by kernel_rfl) (by kernel_rfl) (by kernel_rfl) (by kernel_rfl) (fun _ _ _ h => h) (Or.inl ⟨by rfl, ?_⟩) (by assumption) ?_
          rotate_left
          · (intro w0 hSw; (try dsimp only at hSw); go_split_ands; go_simp; with_reducible rfl)
          try simp only [Act.put, List.setIfInBounds_toArray, List.set_cons_zero, List.set_cons_succ]
          refine AnyE.take2 (i := 34) [] (oi := { dst := some 187, op := Go.Op.binOp Go.BinOp.neq 3 (Go.Operand.tmp 184) (Go.Operand.tmp 186) 3, type := 4, pos := "law.go:125", after := #[{ on := 31, ground := Go.Ground.data }, { on := 33, ground := Go.Ground.data }, { on := 26, ground := Go.Ground.guard }], guard := some (26, false) }) (v := ?_) rfl (by kernel_rfl) (by kernel_rfl) (by kernel_rfl) (by kernel_rfl) (fun _ _ _ h => h) (Or.inl ⟨by rfl, ?_⟩) (by assumption) ?_
          rotate_left
          · (intro w0 hSw; (try dsimp only at hSw); go_split_ands; go_simp; with_reducible rfl)
          try simp only [Act.put, List.setIfInBounds_toArray, List.set_cons_zero, List.set_cons_succ]
          refine AnyE.ready (rs := [35]) (by kernel_rfl) (by simp) ?_
          refine AllE.last (o := { dst := some 188, op := Go.Op.pick (Go.Operand.tmp 179) (Go.Operand.const (Go.Value.bool true)) (Go.Operand.tmp 187), type := 4, pos := "law.go:125", after := #[{ on := 26, ground := Go.Ground.data }, { on := 34, ground := Go.Ground.data }], guard := none }) rfl (by kernel_rfl) (fun KK hKK => ?_)
          go_simp
          refine hKK.out _ _ ?_
          clear hKK KK
          try simp only [Act.put, List.setIfInBounds_toArray, List.set_cons_zero, List.set_cons_succ]
          go_wp2
          exact ⟨⟨q + 1, by omega, by go_num, HJu, HLu⟩, by simp [intOf]; omega⟩
      by_cases h28 : c = 28
      · subst h28
        have HJL := HJV
        have HLL : Hid (Ints V none []) := Lib.hid (.inl rfl)
        go_wp2_with fail
        clear g0 g1 g3
        go_loopw [14] (fun i wr => ∃ q : Nat, q ≤ 0 ∧ i = .int .i64 q ∧ Hid (ShJ K X lo k t10 t12 ra rc sh w wr) ∧ Hid (Ints wr none [])) (fun i _ => 0 - (intOf i).toNat)
        case atStart => exact ⟨0, Nat.zero_le _, rfl, HJL, HLL⟩
        case round =>
          obtain ⟨q, hq, rfl, HJr, HLr⟩ := hrel
          by_cases hqn : q < 0
          case neg =>
            have hq2 : q = 0 := by omega
            subst hq2
            go_wp2
            exact HNext.out _ HJr.out.i
          exact absurd hqn (Nat.not_lt_zero q)
      by_cases h26 : c = 26
      · subst h26
        obtain ⟨t1, hz1, ht1, hH1, hS1⟩ := HC1.out rfl
        obtain ⟨t2, hz2, ht2, hH2, hS2⟩ := HC2.out rfl
        have HOL : Hid (OnL K sh [(k : Int) + (sz : Int), (k : Int) + av]) := Lib.hid fun z hz => by
          rcases List.mem_cons.1 hz with rfl | hz
          · exact ⟨t1, hz1, ht1, hH1, hS1⟩
          rcases List.mem_cons.1 hz with rfl | hz
          · exact ⟨t2, hz2, ht2, hH2, hS2⟩
          · cases hz
        have b0 : 0 ≤ (k : Int) + av := by omega
        have b1 : (k : Int) + av < K.n := by omega
        clear hz1 ht1 hH1 hS1 hz2 ht2 hH2 hS2
        obtain ⟨a1, c1, V1, hr1, ho1, hb1⟩ := app_one V V.heap.size 0 (.slice none 0 0) [] ((k : Int) + (sz : Int)) (World.ownsRow_nil _ _ _ _) (by omega) (Nat.le_refl _)
        rw [Nat.zero_add] at hr1 ho1
        have HRun1 := Lib.hid hr1
        have HJ1 : Hid (ShJ K X lo k t10 t12 ra rc sh w V1) := Lib.hid (HJV.out.below hb1)
        have HL1 : Hid (Ints V1 a1 [(k : Int) + (sz : Int)]) := Lib.hid (Ints.own ho1 rfl)
        obtain ⟨h0, h1, h3⟩ := HFa.out V1 HJ1.out
        have HO1 := Lib.hid (And.intro ho1 hb1)
        clear hr1 ho1 hb1
        obtain ⟨a2, c2, V2, hr2, ho2, hb2⟩ := app_one V1 V.heap.size 1 (.slice a1 1 c1) [(k : Int) + (sz : Int)] ((k : Int) + av) HO1.out.1 (by omega) HO1.out.2.size
        simp only [Nat.reduceAdd] at hr2 ho2
        have HRun2 := Lib.hid hr2
        have HJ2 : Hid (ShJ K X lo k t10 t12 ra rc sh w V2) := Lib.hid (HJV.out.below (HO1.out.2.trans hb2))
        have HL2 : Hid (Ints V2 a2 [(k : Int) + (sz : Int), (k : Int) + av]) := Lib.hid (Ints.own ho2 rfl)
        clear hr2 ho2 hb2
        go_wp2_with (at_builtin; first | refine Lib.wpList_append_run _ rfl _ _ _ _ rfl _ _ rfl rfl _ _ HRun1.out ?_ | refine Lib.wpList_append_run _ rfl _ _ _ _ rfl _ _ rfl rfl _ _ HRun2.out ?_)
        clear g0 g1 g3 h0 h1 h3 HRun1 HRun2 b0 b1
        have HJL := HJ2
        have HLL := HL2
        go_loopw [14] (fun i wr => ∃ q : Nat, q ≤ 2 ∧ i = .int .i64 q ∧ Hid (ShJ K X lo k t10 t12 ra rc sh w wr) ∧ Hid (Ints wr a2 [(k : Int) + (sz : Int), (k : Int) + av])) (fun i _ => 2 - (intOf i).toNat)
        case atStart => exact ⟨0, Nat.zero_le _, rfl, HJL, HLL⟩
        case round =>
          obtain ⟨q, hq, rfl, HJr, HLr⟩ := hrel
          by_cases hqn : q < 2
          case neg =>
            have hq2 : q = 2 := by omega
            subst hq2
            go_wp2
            exact HNext.out _ HJr.out.i
          obtain ⟨t, hz, htn, htH, htS⟩ := HOL.out ([(k : Int) + (sz : Int), (k : Int) + av].getD q 0) (getD_mem hqn)
          obtain ⟨b3, o3, ha3, hb3, hc3⟩ := HLr.out.at (by show 0 < 2; omega)
          subst ha3
          have y : wr.cell? ⟨b3, o3 + q, none⟩ = some (.int .i64 (t : Int)) := (hc3 q hqn).trans (by rw [hz])
          have e0 : decide ((t : Int) < 0) = false := decide_eq_false (by omega)
          have e1 : decide ((K.n : Int) ≤ (t : Int)) = false := decide_eq_false (by omega)
          have e2 : decide (K.n ≤ t) = false := decide_eq_false (by omega)
          have e3 : (sh.h != sh.h) = false := by simp
          have hti : (t : Int) < K.n := by omega
          have hqi : (q : Int) < 2 := by omega
          clear hz hb3 hc3
          go_wp2_with fail
          have HJd : Hid (ShJ K X lo k t10 t12 ra rc sh w wr.drew) := Lib.hid (HJr.out.below (Below.refl _ _).drew)
          have HLd : Hid (Ints wr.drew (some ⟨b3, o3, none⟩) [(k : Int) + (sz : Int), (k : Int) + av]) := Lib.hid (HLr.out.kept (Kept.of (Below.refl _ _).drew))
          clear y HJr HLr
          have HHt := Lib.hid (HHO2.out t htn htH htS)
          have HInt := Lib.hid (HIn.out t htn htS)
          clear htH htS
          refine region_e 35 (fun w' => w'.cell? ⟨K.rh, t, none⟩ = some (.bool true) ∧ w'.cell? ⟨K.rs, t * 2, none⟩ = some (.slice (X.a t) sh.l.length (X.c t)) ∧ w'.cell? ⟨K.rs, t * 2 + 1, none⟩ = some (.int .i64 sh.h) ∧ w'.cell? ⟨t12, 0, none⟩ = some (.slice ra sh.l.length rc) ∧ w'.cell? ⟨t12, 1, none⟩ = some (.int .i64 sh.h)) (by kernel_rfl) (HHt.out _ HJd.out) (fun hHeld => ?_)
          generalize wr.drew = u0 at hHeld HJd HLd ⊢
          refine AnyE.take2 (i := 0) [26, 25, 15, 8, 2, 1] (oi := { dst := some 153, op := Go.Op.move (Go.Operand.tmp 15), type := 3, pos := "law.go:125", after := #[], guard := none }) (v := ?_) rfl (by kernel_rfl) (by kernel_rfl) (by kernel_rfl) (by kernel_rfl) (fun _ _ _ h => h) (Or.inl ⟨by rfl, ?_⟩) (by assumption) ?_
          rotate_left
          · (intro w0 hSw; (try dsimp only at hSw); go_split_ands; go_simp; with_reducible rfl)
          try simp only [Act.put, List.setIfInBounds_toArray, List.set_cons_zero, List.set_cons_succ]
          refine AnyE.take2 (i := 1) [26, 25, 15, 8, 2] (oi := { dst := some 154, op := Go.Op.binOp Go.BinOp.lss 3 (Go.Operand.tmp 153) (Go.Operand.const (Go.Value.int Go.IntKind.i64 0)) 3, type := 4, pos := "law.go:125", after := #[{ on := 0, ground := Go.Ground.data }], guard := none }) (v := ?_) rfl (by kernel_rfl) (by kernel_rfl) (by kernel_rfl) (by kernel_rfl) (fun _ _ _ h => h) (Or.inl ⟨by rfl, ?_⟩) (by assumption) ?_
          rotate_left
          · (intro w0 hSw; (try dsimp only at hSw); go_split_ands; go_simp; with_reducible rfl)
          try simp only [Act.put, List.setIfInBounds_toArray, List.set_cons_zero, List.set_cons_succ]
          refine AnyE.take2 (i := 2) [26, 25, 15, 8] (oi := { dst := some 155, op := Go.Op.move (Go.Operand.tmp 154), type := 4, pos := "law.go:125", after := #[{ on := 1, ground := Go.Ground.data }], guard := none }) (v := ?_) rfl (by kernel_rfl) (by kernel_rfl) (by kernel_rfl) (by kernel_rfl) (fun _ _ _ h => h) (Or.inl ⟨by rfl, ?_⟩) (by assumption) ?_
          rotate_left
          · (intro w0 hSw; (try dsimp only at hSw); go_split_ands; go_simp; with_reducible rfl)
          try simp only [Act.put, List.setIfInBounds_toArray, List.set_cons_zero, List.set_cons_succ]
          refine AnyE.take2 (i := 3) [26, 25, 15, 8, 7, 6] (oi := { dst := some 156, op := Go.Op.move (Go.Operand.tmp 15), type := 3, pos := "law.go:125", after := #[{ on := 2, ground := Go.Ground.guard }], guard := some (2, false) }) (v := ?_) rfl (by kernel_rfl) (by kernel_rfl) (by kernel_rfl) (by kernel_rfl) (fun _ _ _ h => h) (Or.inl ⟨by rfl, ?_⟩) (by assumption) ?_
          rotate_left
          · (intro w0 hSw; (try dsimp only at hSw); go_split_ands; go_simp; with_reducible rfl)
          try simp only [Act.put, List.setIfInBounds_toArray, List.set_cons_zero, List.set_cons_succ]
          refine AnyE.take2 (i := 4) [26, 25, 15, 8, 7, 6, 5] (oi := { dst := some 157, op := Go.Op.move (Go.Operand.tmp 8), type := 29, pos := "law.go:125", after := #[{ on := 2, ground := Go.Ground.guard }], guard := some (2, false) }) (v := ?_) rfl (by kernel_rfl) (by kernel_rfl) (by kernel_rfl) (by kernel_rfl) (fun _ _ _ h => h) (Or.inl ⟨by rfl, ?_⟩) (by assumption) ?_
          rotate_left
          · (intro w0 hSw; (try dsimp only at hSw); go_split_ands; go_simp; with_reducible rfl)
          try simp only [Act.put, List.setIfInBounds_toArray, List.set_cons_zero, List.set_cons_succ]
          refine AnyE.take2 (i := 5) [26, 25, 15, 8, 7, 6] (oi := { dst := some 158, op := Go.Op.call { callee := Go.Callee.builtin Go.Builtin.len, args := #[Go.Operand.tmp 157], argTypes := #[29] }, type := 3, pos := "law.go:125", after := #[{ on := 4, ground := Go.Ground.data }, { on := 2, ground := Go.Ground.guard }], guard := some (2, false) }) (v := ?_) rfl (by kernel_rfl) (by kernel_rfl) (by kernel_rfl) (by kernel_rfl) (fun _ _ _ h => h) (Or.inl ⟨by rfl, ?_⟩) (by assumption) ?_
          rotate_left
          · (intro w0 hSw; (try dsimp only at hSw); go_split_ands; go_simp; with_reducible rfl)
          try simp only [Act.put, List.setIfInBounds_toArray, List.set_cons_zero, List.set_cons_succ]
          refine AnyE.take2 (i := 6) [26, 25, 15, 8, 7] (oi := { dst := some 159, op := Go.Op.binOp Go.BinOp.geq 3 (Go.Operand.tmp 156) (Go.Operand.tmp 158) 3, type := 4, pos := "law.go:125", after := #[{ on := 3, ground := Go.Ground.data }, { on := 5, ground := Go.Ground.data }, { on := 2, ground := Go.Ground.guard }], guard := some (2, false) }) (v := ?_) rfl (by kernel_rfl) (by kernel_rfl) (by kernel_rfl) (by kernel_rfl) (fun _ _ _ h => h) (Or.inl ⟨by rfl, ?_⟩) (by assumption) ?_
          rotate_left
          · (intro w0 hSw; (try dsimp only at hSw); go_split_ands; go_simp; with_reducible rfl)
          try simp only [Act.put, List.setIfInBounds_toArray, List.set_cons_zero, List.set_cons_succ]
          refine AnyE.take2 (i := 7) [26, 25, 15, 8] (oi := { dst := some 160, op := Go.Op.pick (Go.Operand.tmp 155) (Go.Operand.const (Go.Value.bool true)) (Go.Operand.tmp 159), type := 4, pos := "law.go:125", after := #[{ on := 2, ground := Go.Ground.data }, { on := 6, ground := Go.Ground.data }], guard := none }) (v := ?_) rfl (by kernel_rfl) (by kernel_rfl) (by kernel_rfl) (by kernel_rfl) (fun _ _ _ h => h) (Or.inl ⟨by rfl, ?_⟩) (by assumption) ?_
          rotate_left
          · (intro w0 hSw; (try dsimp only at hSw); go_split_ands; go_simp; with_reducible rfl)
          try simp only [Act.put, List.setIfInBounds_toArray, List.set_cons_zero, List.set_cons_succ]
          refine AnyE.take2 (i := 8) [26, 25, 15] (oi := { dst := some 161, op := Go.Op.move (Go.Operand.tmp 160), type := 4, pos := "law.go:125", after := #[{ on := 7, ground := Go.Ground.data }, { on := 2, ground := Go.Ground.chain }], guard := none }) (v := ?_) rfl (by kernel_rfl) (by kernel_rfl) (by kernel_rfl) (by kernel_rfl) (fun _ _ _ h => h) (Or.inl ⟨by rfl, ?_⟩) (by assumption) ?_
          rotate_left
          · (intro w0 hSw; (try dsimp only at hSw); go_split_ands; go_simp; with_reducible rfl)
          try simp only [Act.put, List.setIfInBounds_toArray, List.set_cons_zero, List.set_cons_succ]
          refine AnyE.take2 (i := 9) [26, 25, 15, 14, 13, 12, 11] (oi := { dst := some 162, op := Go.Op.move (Go.Operand.tmp 6), type := 63, pos := "law.go:125", after := #[{ on := 8, ground := Go.Ground.guard }], guard := some (8, false) }) (v := ?_) rfl (by kernel_rfl) (by kernel_rfl) (by kernel_rfl) (by kernel_rfl) (fun _ _ _ h => h) (Or.inl ⟨by rfl, ?_⟩) (by assumption) ?_
          rotate_left
          · (intro w0 hSw; (try dsimp only at hSw); go_split_ands; go_simp; with_reducible rfl)
          try simp only [Act.put, List.setIfInBounds_toArray, List.set_cons_zero, List.set_cons_succ]
          refine AnyE.take2 (i := 10) [26, 25, 15, 14, 13, 12, 11] (oi := { dst := some 163, op := Go.Op.move (Go.Operand.tmp 15), type := 3, pos := "law.go:125", after := #[{ on := 8, ground := Go.Ground.guard }], guard := some (8, false) }) (v := ?_) rfl (by kernel_rfl) (by kernel_rfl) (by kernel_rfl) (by kernel_rfl) (fun _ _ _ h => h) (Or.inl ⟨by rfl, ?_⟩) (by assumption) ?_
          rotate_left
          · (intro w0 hSw; (try dsimp only at hSw); go_split_ands; go_simp; with_reducible rfl)
          try simp only [Act.put, List.setIfInBounds_toArray, List.set_cons_zero, List.set_cons_succ]
          refine AnyE.take2 (i := 11) [26, 25, 15, 14, 13, 12] (oi := { dst := some 164, op := Go.Op.indexAddr 63 (Go.Operand.tmp 162) (Go.Operand.tmp 163), type := 0, pos := "law.go:125", after := #[{ on := 9, ground := Go.Ground.data }, { on := 10, ground := Go.Ground.data }, { on := 8, ground := Go.Ground.guard }], guard := some (8, false) }) (v := ?_) rfl (by kernel_rfl) (by kernel_rfl) (by kernel_rfl) (by kernel_rfl) (fun _ _ _ h => h) (Or.inl ⟨by rfl, ?_⟩) (by assumption) ?_
          rotate_left
          · (intro w0 hSw; (try dsimp only at hSw); go_split_ands; go_simp; with_reducible rfl)
          try simp only [Act.put, List.setIfInBounds_toArray, List.set_cons_zero, List.set_cons_succ]
          refine AnyE.take2 (i := 12) [26, 25, 15, 14, 13] (oi := { dst := some 165, op := Go.Op.load 4 (Go.Operand.tmp 164), type := 4, pos := "law.go:125", after := #[{ on := 11, ground := Go.Ground.data }, { on := 8, ground := Go.Ground.guard }], guard := some (8, false) }) (v := ?_) rfl (by kernel_rfl) (by kernel_rfl) (by kernel_rfl) (by kernel_rfl) (fun _ _ _ h => h) (Or.inl ⟨by rfl, ?_⟩) (by assumption) ?_
          rotate_left
          · (intro w0 hSw; (try dsimp only at hSw); go_split_ands; go_simp; with_reducible rfl)
          try simp only [Act.put, List.setIfInBounds_toArray, List.set_cons_zero, List.set_cons_succ]
          refine AnyE.take2 (i := 13) [26, 25, 15, 14] (oi := { dst := some 166, op := Go.Op.unOp Go.UnOp.not 4 (Go.Operand.tmp 165), type := 4, pos := "law.go:125", after := #[{ on := 12, ground := Go.Ground.data }, { on := 8, ground := Go.Ground.guard }], guard := some (8, false) }) (v := ?_) rfl (by kernel_rfl) (by kernel_rfl) (by kernel_rfl) (by kernel_rfl) (fun _ _ _ h => h) (Or.inl ⟨by rfl, ?_⟩) (by assumption) ?_
          rotate_left
          · (intro w0 hSw; (try dsimp only at hSw); go_split_ands; go_simp; with_reducible rfl)
          try simp only [Act.put, List.setIfInBounds_toArray, List.set_cons_zero, List.set_cons_succ]
          refine AnyE.take2 (i := 14) [26, 25, 15] (oi := { dst := some 167, op := Go.Op.pick (Go.Operand.tmp 161) (Go.Operand.const (Go.Value.bool true)) (Go.Operand.tmp 166), type := 4, pos := "law.go:125", after := #[{ on := 8, ground := Go.Ground.data }, { on := 13, ground := Go.Ground.data }], guard := none }) (v := ?_) rfl (by kernel_rfl) (by kernel_rfl) (by kernel_rfl) (by kernel_rfl) (fun _ _ _ h => h) (Or.inl ⟨by rfl, ?_⟩) (by assumption) ?_
          rotate_left
          · (intro w0 hSw; (try dsimp only at hSw); go_split_ands; go_simp; with_reducible rfl)
          try simp only [Act.put, List.setIfInBounds_toArray, List.set_cons_zero, List.set_cons_succ]
          refine AnyE.take2 (i := 15) [26, 25] (oi := { dst := some 168, op := Go.Op.move (Go.Operand.tmp 167), type := 4, pos := "law.go:125", after := #[{ on := 14, ground := Go.Ground.data }, { on := 8, ground := Go.Ground.chain }], guard := none }) (v := ?_) rfl (by kernel_rfl) (by kernel_rfl) (by kernel_rfl) (by kernel_rfl) (fun _ _ _ h => h) (Or.inl ⟨by rfl, ?_⟩) (by assumption) ?_
          rotate_left
          · (intro w0 hSw; (try dsimp only at hSw); go_split_ands; go_simp; with_reducible rfl)
          try simp only [Act.put, List.setIfInBounds_toArray, List.set_cons_zero, List.set_cons_succ]
          refine AnyE.take2 (i := 16) [26, 23, 20, 19, 18] (oi := { dst := some 169, op := Go.Op.move (Go.Operand.tmp 5), type := 62, pos := "law.go:125", after := #[{ on := 15, ground := Go.Ground.guard }], guard := some (15, false) }) (v := ?_) rfl (by kernel_rfl) (by kernel_rfl) (by kernel_rfl) (by kernel_rfl) (fun _ _ _ h => h) (Or.inl ⟨by rfl, ?_⟩) (by assumption) ?_
          rotate_left
          · (intro w0 hSw; (try dsimp only at hSw); go_split_ands; go_simp; with_reducible rfl)
          try simp only [Act.put, List.setIfInBounds_toArray, List.set_cons_zero, List.set_cons_succ]
          refine AnyE.take2 (i := 17) [26, 23, 20, 19, 18] (oi := { dst := some 170, op := Go.Op.move (Go.Operand.tmp 15), type := 3, pos := "law.go:125", after := #[{ on := 15, ground := Go.Ground.guard }], guard := some (15, false) }) (v := ?_) rfl (by kernel_rfl) (by kernel_rfl) (by kernel_rfl) (by kernel_rfl) (fun _ _ _ h => h) (Or.inl ⟨by rfl, ?_⟩) (by assumption) ?_
          rotate_left
          · (intro w0 hSw; (try dsimp only at hSw); go_split_ands; go_simp; with_reducible rfl)
          try simp only [Act.put, List.setIfInBounds_toArray, List.set_cons_zero, List.set_cons_succ]
          refine AnyE.take2 (i := 18) [26, 23, 20, 19] (oi := { dst := some 171, op := Go.Op.indexAddr 62 (Go.Operand.tmp 169) (Go.Operand.tmp 170), type := 0, pos := "law.go:125", after := #[{ on := 16, ground := Go.Ground.data }, { on := 17, ground := Go.Ground.data }, { on := 15, ground := Go.Ground.guard }], guard := some (15, false) }) (v := ?_) rfl (by kernel_rfl) (by kernel_rfl) (by kernel_rfl) (by kernel_rfl) (fun _ _ _ h => h) (Or.inl ⟨by rfl, ?_⟩) (by assumption) ?_
          rotate_left
          · (intro w0 hSw; (try dsimp only at hSw); go_split_ands; go_simp; with_reducible rfl)
          try simp only [Act.put, List.setIfInBounds_toArray, List.set_cons_zero, List.set_cons_succ]
          refine AnyE.take2 (i := 19) [26, 23, 20] (oi := { dst := some 172, op := Go.Op.fieldAddr 71 (Go.Operand.tmp 171) 0, type := 0, pos := "law.go:125", after := #[{ on := 18, ground := Go.Ground.data }, { on := 15, ground := Go.Ground.guard }], guard := some (15, false) }) (v := ?_) rfl (by kernel_rfl) (by kernel_rfl) (by kernel_rfl) (by kernel_rfl) (fun _ _ _ h => h) (Or.inl ⟨by rfl, ?_⟩) (by assumption) ?_
          rotate_left
          · (intro w0 hSw; (try dsimp only at hSw); go_split_ands; go_simp; with_reducible rfl)
          try simp only [Act.put, List.setIfInBounds_toArray, List.set_cons_zero, List.set_cons_succ]
          refine AnyE.take2 (i := 20) [26, 23] (oi := { dst := some 173, op := Go.Op.load 48 (Go.Operand.tmp 172), type := 48, pos := "law.go:125", after := #[{ on := 19, ground := Go.Ground.data }, { on := 15, ground := Go.Ground.guard }], guard := some (15, false) }) (v := ?_) rfl (by kernel_rfl) (by kernel_rfl) (by kernel_rfl) (by kernel_rfl) (fun _ _ _ h => h) (Or.inl ⟨by rfl, ?_⟩) (by assumption) ?_
          rotate_left
          · (intro w0 hSw; (try dsimp only at hSw); go_split_ands; go_simp; with_reducible rfl)
          try simp only [Act.put, List.setIfInBounds_toArray, List.set_cons_zero, List.set_cons_succ]
          refine AnyE.take2 (i := 21) [26, 23, 22] (oi := { dst := some 174, op := Go.Op.fieldAddr 71 (Go.Operand.tmp 12) 0, type := 0, pos := "law.go:125", after := #[{ on := 15, ground := Go.Ground.guard }], guard := some (15, false) }) (v := ?_) rfl (by kernel_rfl) (by kernel_rfl) (by kernel_rfl) (by kernel_rfl) (fun _ _ _ h => h) (Or.inl ⟨by rfl, ?_⟩) (by assumption) ?_
          rotate_left
          · (intro w0 hSw; (try dsimp only at hSw); go_split_ands; go_simp; with_reducible rfl)
          try simp only [Act.put, List.setIfInBounds_toArray, List.set_cons_zero, List.set_cons_succ]
          refine AnyE.take2 (i := 22) [26, 23] (oi := { dst := some 175, op := Go.Op.load 48 (Go.Operand.tmp 174), type := 48, pos := "law.go:125", after := #[{ on := 21, ground := Go.Ground.data }, { on := 15, ground := Go.Ground.guard }], guard := some (15, false) }) (v := ?_) rfl (by kernel_rfl) (by kernel_rfl) (by kernel_rfl) (by kernel_rfl) (fun _ _ _ h => h) (Or.inl ⟨by rfl, ?_⟩) (by assumption) ?_
          rotate_left
          · (intro w0 hSw; (try dsimp only at hSw); go_split_ands; go_simp; with_reducible rfl)
          try simp only [Act.put, List.setIfInBounds_toArray, List.set_cons_zero, List.set_cons_succ]
          refine AnyE.ready (rs := [23]) (by kernel_rfl) (by simp) ?_
          refine AllE.cons (o := { dst := some 176, op := Go.Op.call { callee := Go.Callee.value (Go.Operand.func 30), args := #[Go.Operand.tmp 173, Go.Operand.tmp 175], argTypes := #[48, 48] }, type := 4, pos := "law.go:125", after := #[{ on := 20, ground := Go.Ground.data }, { on := 22, ground := Go.Ground.data }, { on := 15, ground := Go.Ground.chain }, { on := 15, ground := Go.Ground.guard }], guard := some (15, false) }) rfl (fun KK hKK => ?_) AllE.nil
          go_simp
          go_at_call 30
          refine (HInt.out _ HJd.out).mono ?_
          rintro e u2 ⟨rfl, hb5⟩
          have HJu := Lib.hid (HJd.out.below hb5)
          have HLu : Hid (Ints u2 (some ⟨b3, o3, none⟩) [(k : Int) + (sz : Int), (k : Int) + av]) := Lib.hid (HLd.out.kept (Kept.of hb5))
          clear hb5
          refine hKK.out _ _ (HHt.out _ HJu.out) (fun hHeld => ?_)
          clear hKK KK
          try simp only [Act.put, List.setIfInBounds_toArray, List.set_cons_zero, List.set_cons_succ]
          refine AnyE.take2 (i := 24) [26, 25] (oi := { dst := some 177, op := Go.Op.unOp Go.UnOp.not 4 (Go.Operand.tmp 176), type := 4, pos := "law.go:125", after := #[{ on := 23, ground := Go.Ground.data }, { on := 15, ground := Go.Ground.guard }], guard := some (15, false) }) (v := ?_) rfl (by kernel_rfl) (by kernel_rfl) (by kernel_rfl) (by kernel_rfl) (fun _ _ _ h => h) (Or.inl ⟨by rfl, ?_⟩) (by assumption) ?_
          rotate_left
          · (intro w0 hSw; (try dsimp only at hSw); go_split_ands; go_simp; with_reducible rfl)
          try simp only [Act.put, List.setIfInBounds_toArray, List.set_cons_zero, List.set_cons_succ]
          refine AnyE.take2 (i := 25) [26] (oi := { dst := some 178, op := Go.Op.pick (Go.Operand.tmp 168) (Go.Operand.const (Go.Value.bool true)) (Go.Operand.tmp 177), type := 4, pos := "law.go:125", after := #[{ on := 15, ground := Go.Ground.data }, { on := 24, ground := Go.Ground.data }], guard := none }) (v := ?_) rfl (by kernel_rfl) (by kernel_rfl) (by kernel_rfl) (by kernel_rfl) (fun _ _ _ h => h) (Or.inl ⟨by rfl, ?_⟩) (by assumption) ?_
          rotate_left
          · (intro w0 hSw; (try dsimp only at hSw); go_split_ands; go_simp; with_reducible rfl)
          try simp only [Act.put, List.setIfInBounds_toArray, List.set_cons_zero, List.set_cons_succ]
          refine AnyE.take2 (i := 26) [] (oi := { dst := some 179, op := Go.Op.move (Go.Operand.tmp 178), type := 4, pos := "law.go:125", after := #[{ on := 25, ground := Go.Ground.data }, { on := 23, ground := Go.Ground.chain }], guard := none }) (v := ?_) rfl (by kernel_rfl) (by kernel_rfl) (by kernel_rfl) (by kernel_rfl) (fun _ _ _ h => h) (Or.inl ⟨by rfl, ?_⟩) (by assumption) ?_
          rotate_left
          · (intro w0 hSw; (try dsimp only at hSw); go_split_ands; go_simp; with_reducible rfl)
          try simp only [Act.put, List.setIfInBounds_toArray, List.set_cons_zero, List.set_cons_succ]
          refine AnyE.take2 (i := 27) [34, 31, 30, 29] (oi := { dst := some 180, op := Go.Op.move (Go.Operand.tmp 5), type := 62, pos := "law.go:125", after := #[{ on := 26, ground := Go.Ground.guard }], guard := some (26, false) }) (v := ?_) rfl (by kernel_rfl) (by kernel_rfl) (by kernel_rfl) (by kernel_rfl) (fun _ _ _ h => h) (Or.inl ⟨by rfl, ?_⟩) (by assumption) ?_
          rotate_left
          · (intro w0 hSw; (try dsimp only at hSw); go_split_ands; go_simp; with_reducible rfl)
          try simp only [Act.put, List.setIfInBounds_toArray, List.set_cons_zero, List.set_cons_succ]
          refine AnyE.take2 (i := 28) [34, 31, 30, 29] (oi := { dst := some 181, op := Go.Op.move (Go.Operand.tmp 15), type := 3, pos := "law.go:125", after := #[{ on := 26, ground := Go.Ground.guard }], guard := some (26, false) }) (v := ?_) rfl (by kernel_rfl) (by kernel_rfl) (by kernel_rfl) (by kernel_rfl) (fun _ _ _ h => h) (Or.inl ⟨by rfl, ?_⟩) (by assumption) ?_
          rotate_left
          · (intro w0 hSw; (try dsimp only at hSw); go_split_ands; go_simp; with_reducible rfl)
          try simp only [Act.put, List.setIfInBounds_toArray, List.set_cons_zero, List.set_cons_succ]
          refine AnyE.take2 (i := 29) [34, 31, 30] (oi := { dst := some 182, op := Go.Op.indexAddr 62 (Go.Operand.tmp 180) (Go.Operand.tmp 181), type := 0, pos := "law.go:125", after := #[{ on := 27, ground := Go.Ground.data }, { on := 28, ground := Go.Ground.data }, { on := 26, ground := Go.Ground.guard }], guard := some (26, false) }) (v := ?_) rfl (by kernel_rfl) (by kernel_rfl) (by kernel_rfl) (by kernel_rfl) (fun _ _ _ h => h) (Or.inl ⟨by rfl, ?_⟩) (by assumption) ?_
          rotate_left
          · (intro w0 hSw; (try dsimp only at hSw); go_split_ands; go_simp; with_reducible rfl)
          try simp only [Act.put, List.setIfInBounds_toArray, List.set_cons_zero, List.set_cons_succ]
          refine AnyE.take2 (i := 30) [34, 31] (oi := { dst := some 183, op := Go.Op.fieldAddr 71 (Go.Operand.tmp 182) 1, type := 0, pos := "law.go:125", after := #[{ on := 29, ground := Go.Ground.data }, { on := 26, ground := Go.Ground.guard }], guard := some (26, false) }) (v := ?_) rfl (by kernel_rfl) (by kernel_rfl) (by kernel_rfl) (by kernel_rfl) (fun _ _ _ h => h) (Or.inl ⟨by rfl, ?_⟩) (by assumption) ?_
          rotate_left
          · (intro w0 hSw; (try dsimp only at hSw); go_split_ands; go_simp; with_reducible rfl)
          try simp only [Act.put, List.setIfInBounds_toArray, List.set_cons_zero, List.set_cons_succ]
          refine AnyE.take2 (i := 31) [34] (oi := { dst := some 184, op := Go.Op.load 3 (Go.Operand.tmp 183), type := 3, pos := "law.go:125", after := #[{ on := 30, ground := Go.Ground.data }, { on := 26, ground := Go.Ground.guard }], guard := some (26, false) }) (v := ?_) rfl (by kernel_rfl) (by kernel_rfl) (by kernel_rfl) (by kernel_rfl) (fun _ _ _ h => h) (Or.inl ⟨by rfl, ?_⟩) (by assumption) ?_
          rotate_left
          · (intro w0 hSw; (try dsimp only at hSw); go_split_ands; go_simp; with_reducible rfl)
          try simp only [Act.put, List.setIfInBounds_toArray, List.set_cons_zero, List.set_cons_succ]
          refine AnyE.take2 (i := 32) [34, 33] (oi := { dst := some 185, op := Go.Op.fieldAddr 71 (Go.Operand.tmp 12) 1, type := 0, pos := "law.go:125", after := #[{ on := 26, ground := Go.Ground.guard }], guard := some (26, false) }) (v := ?_) rfl (by kernel_rfl) (by kernel_rfl) (by kernel_rfl) (by kernel_rfl) (fun _ _ _ h => h) (Or.inl ⟨by rfl, ?_⟩) (by assumption) ?_
          rotate_left
          · (intro w0 hSw; (try dsimp only at hSw); go_split_ands; go_simp; with_reducible rfl)
          try simp only [Act.put, List.setIfInBounds_toArray, List.set_cons_zero, List.set_cons_succ]
          refine AnyE.take2 (i := 33) [34] (oi := { dst := some 186, op := Go.Op.load 3 (Go.Operand.tmp 185), type := 3, pos := "law.go:125", after := #[{ on := 32, ground := Go.Ground.data }, { on := 26, ground := Go.Ground.guard }], guard := some (26, false) }) (v := ?_) rfl (by kernel_rfl) (by kernel_rfl) (by kernel_rfl) (by kernel_rfl) (fun _ _ _ h => h) (Or.inl ⟨by rfl, ?_⟩) (by assumption) ?_
          rotate_left
          · (intro w0 hSw; (try dsimp only at hSw); go_split_ands; go_simp; with_reducible rfl)
          try simp only [Act.put, List.setIfInBounds_toArray, List.set_cons_zero, List.set_cons_succ]
          refine AnyE.take2 (i := 34) [] (oi := { dst := some 187, op := Go.Op.binOp Go.BinOp.neq 3 (Go.Operand.tmp 184) (Go.Operand.tmp 186) 3, type := 4, pos := "law.go:125", after := #[{ on := 31, ground := Go.Ground.data }, { on := 33, ground := Go.Ground.data }, { on := 26, ground := Go.Ground.guard }], guard := some (26, false) }) (v := ?_) rfl (by kernel_rfl) (by kernel_rfl) (by kernel_rfl) (by kernel_rfl) (fun _ _ _ h => h) (Or.inl ⟨by rfl, ?_⟩) (by assumption) ?_
          rotate_left
          · (intro w0 hSw; (try dsimp only at hSw); go_split_ands; go_simp; with_reducible rfl)
          try simp only [Act.put, List.setIfInBounds_toArray, List.set_cons_zero, List.set_cons_succ]
          refine AnyE.ready (rs := [35]) (by kernel_rfl) (by simp) ?_
          refine AllE.last (o := { dst := some 188, op := Go.Op.pick (Go.Operand.tmp 179) (Go.Operand.const (Go.Value.bool true)) (Go.Operand.tmp 187), type := 4, pos := "law.go:125", after := #[{ on := 26, ground := Go.Ground.data }, { on := 34, ground := Go.Ground.data }], guard := none }) rfl (by kernel_rfl) (fun KK hKK => ?_)
          go_simp
          refine hKK.out _ _ ?_
          clear hKK KK
          try simp only [Act.put, List.setIfInBounds_toArray, List.set_cons_zero, List.set_cons_succ]
          go_wp2
          exact ⟨⟨q + 1, by omega, by go_num, HJu, HLu⟩, by simp [intOf]; omega⟩
      obtain ⟨t1, hz1, ht1, hH1, hS1⟩ := HC1.out (decide_eq_true ⟨h25, h28⟩)
      have HOL : Hid (OnL K sh [(k : Int) + (sz : Int)]) := Lib.hid fun z hz => by
        rcases List.mem_cons.1 hz with rfl | hz
        · exact ⟨t1, hz1, ht1, hH1, hS1⟩
        · cases hz
      have e25 : ((c : Int) != 25) = true := by simpa using (show ¬ (c : Int) = 25 by omega)
      have e28 : ((c : Int) != 28) = true := by simpa using (show ¬ (c : Int) = 28 by omega)
      have f25 : ((c : Int) == 25) = false := by simpa using (show ¬ (c : Int) = 25 by omega)
      have f26 : ((c : Int) == 26) = false := by simpa using (show ¬ (c : Int) = 26 by omega)
      clear hz1 ht1 hH1 hS1 h25 h28 h26
      obtain ⟨a1, c1, V1, hr1, ho1, hb1⟩ := app_one V V.heap.size 0 (.slice none 0 0) [] ((k : Int) + (sz : Int)) (World.ownsRow_nil _ _ _ _) (by omega) (Nat.le_refl _)
      rw [Nat.zero_add] at hr1 ho1
      have HRun1 := Lib.hid hr1
      have HJ1 : Hid (ShJ K X lo k t10 t12 ra rc sh w V1) := Lib.hid (HJV.out.below hb1)
      have HL1 : Hid (Ints V1 a1 [(k : Int) + (sz : Int)]) := Lib.hid (Ints.own ho1 rfl)
      obtain ⟨h0, h1, h3⟩ := HFa.out V1 HJ1.out
      have HO1 := Lib.hid (And.intro ho1 hb1)
      clear hr1 ho1 hb1
      go_wp2_with (at_builtin; first | refine Lib.wpList_append_run _ rfl _ _ _ _ rfl _ _ rfl rfl _ _ HRun1.out ?_ )
      clear g0 g1 g3 h0 h1 h3 HRun1 e25 e28 f25 f26
      have HJL := HJ1
      have HLL := HL1
      go_loopw [14] (fun i wr => ∃ q : Nat, q ≤ 1 ∧ i = .int .i64 q ∧ Hid (ShJ K X lo k t10 t12 ra rc sh w wr) ∧ Hid (Ints wr a1 [(k : Int) + (sz : Int)])) (fun i _ => 1 - (intOf i).toNat)
      case atStart => exact ⟨0, Nat.zero_le _, rfl, HJL, HLL⟩
      case round =>
        obtain ⟨q, hq, rfl, HJr, HLr⟩ := hrel
        by_cases hqn : q < 1
        case neg =>
          have hq2 : q = 1 := by omega
          subst hq2
          go_wp2
          exact HNext.out _ HJr.out.i
        obtain ⟨t, hz, htn, htH, htS⟩ := HOL.out ([(k : Int) + (sz : Int)].getD q 0) (getD_mem hqn)
        obtain ⟨b3, o3, ha3, hb3, hc3⟩ := HLr.out.at (by show 0 < 1; omega)
        subst ha3
        have y : wr.cell? ⟨b3, o3 + q, none⟩ = some (.int .i64 (t : Int)) := (hc3 q hqn).trans (by rw [hz])
        have e0 : decide ((t : Int) < 0) = false := decide_eq_false (by omega)
        have e1 : decide ((K.n : Int) ≤ (t : Int)) = false := decide_eq_false (by omega)
        have e2 : decide (K.n ≤ t) = false := decide_eq_false (by omega)
        have e3 : (sh.h != sh.h) = false := by simp
        have hti : (t : Int) < K.n := by omega
        have hqi : (q : Int) < 1 := by omega
        clear hz hb3 hc3
        go_wp2_with fail
        have HJd : Hid (ShJ K X lo k t10 t12 ra rc sh w wr.drew) := Lib.hid (HJr.out.below (Below.refl _ _).drew)
        have HLd : Hid (Ints wr.drew (some ⟨b3, o3, none⟩) [(k : Int) + (sz : Int)]) := Lib.hid (HLr.out.kept (Kept.of (Below.refl _ _).drew))
        clear y HJr HLr
        have HHt := Lib.hid (HHO2.out t htn htH htS)
        have HInt := Lib.hid (HIn.out t htn htS)
        clear htH htS
        refine region_e 35 (fun w' => w'.cell? ⟨K.rh, t, none⟩ = some (.bool true) ∧ w'.cell? ⟨K.rs, t * 2, none⟩ = some (.slice (X.a t) sh.l.length (X.c t)) ∧ w'.cell? ⟨K.rs, t * 2 + 1, none⟩ = some (.int .i64 sh.h) ∧ w'.cell? ⟨t12, 0, none⟩ = some (.slice ra sh.l.length rc) ∧ w'.cell? ⟨t12, 1, none⟩ = some (.int .i64 sh.h)) (by kernel_rfl) (HHt.out _ HJd.out) (fun hHeld => ?_)
        generalize wr.drew = u0 at hHeld HJd HLd ⊢
        refine AnyE.take2 (i := 0) [26, 25, 15, 8, 2, 1] (oi := { dst := some 153, op := Go.Op.move (Go.Operand.tmp 15), type := 3, pos := "law.go:125", after := #[], guard := none }) (v := ?_) rfl (by kernel_rfl) (by kernel_rfl) (by kernel_rfl) (by kernel_rfl) (fun _ _ _ h => h) (Or.inl ⟨by rfl, ?_⟩) (by assumption) ?_
        rotate_left
        · (intro w0 hSw; (try dsimp only at hSw); go_split_ands; go_simp; with_reducible rfl)
        try simp only [Act.put, List.setIfInBounds_toArray, List.set_cons_zero, List.set_cons_succ]
        refine AnyE.take2 (i := 1) [26, 25, 15, 8, 2] (oi := { dst := some 154, op := Go.Op.binOp Go.BinOp.lss 3 (Go.Operand.tmp 153) (Go.Operand.const (Go.Value.int Go.IntKind.i64 0)) 3, type := 4, pos := "law.go:125", after := #[{ on := 0, ground := Go.Ground.data }], guard := none }) (v := ?_) rfl (by kernel_rfl) (by kernel_rfl) (by kernel_rfl) (by kernel_rfl) (fun _ _ _ h => h) (Or.inl ⟨by rfl, ?_⟩) (by assumption) ?_
        rotate_left
        · (intro w0 hSw; (try dsimp only at hSw); go_split_ands; go_simp; with_reducible rfl)
        try simp only [Act.put, List.setIfInBounds_toArray, List.set_cons_zero, List.set_cons_succ]
        refine AnyE.take2 (i := 2) [26, 25, 15, 8] (oi := { dst := some 155, op := Go.Op.move (Go.Operand.tmp 154), type := 4, pos := "law.go:125", after := #[{ on := 1, ground := Go.Ground.data }], guard := none }) (v := ?_) rfl (by kernel_rfl) (by kernel_rfl) (by kernel_rfl) (by kernel_rfl) (fun _ _ _ h => h) (Or.inl ⟨by rfl, ?_⟩) (by assumption) ?_
        rotate_left
        · (intro w0 hSw; (try dsimp only at hSw); go_split_ands; go_simp; with_reducible rfl)
        try simp only [Act.put, List.setIfInBounds_toArray, List.set_cons_zero, List.set_cons_succ]
        refine AnyE.take2 (i := 3) [26, 25, 15, 8, 7, 6] (oi := { dst := some 156, op := Go.Op.move (Go.Operand.tmp 15), type := 3, pos := "law.go:125", after := #[{ on := 2, ground := Go.Ground.guard }], guard := some (2, false) }) (v := ?_) rfl (by kernel_rfl) (by kernel_rfl) (by kernel_rfl) (by kernel_rfl) (fun _ _ _ h => h) (Or.inl ⟨by rfl, ?_⟩) (by assumption) ?_
        rotate_left
        · (intro w0 hSw; (try dsimp only at hSw); go_split_ands; go_simp; with_reducible rfl)
        try simp only [Act.put, List.setIfInBounds_toArray, List.set_cons_zero, List.set_cons_succ]
        refine AnyE.take2 (i := 4) [26, 25, 15, 8, 7, 6, 5] (oi := { dst := some 157, op := Go.Op.move (Go.Operand.tmp 8), type := 29, pos := "law.go:125", after := #[{ on := 2, ground := Go.Ground.guard }], guard := some (2, false) }) (v := ?_) rfl (by kernel_rfl) (by kernel_rfl) (by kernel_rfl) (by kernel_rfl) (fun _ _ _ h => h) (Or.inl ⟨by rfl, ?_⟩) (by assumption) ?_
        rotate_left
        · (intro w0 hSw; (try dsimp only at hSw); go_split_ands; go_simp; with_reducible rfl)
        try simp only [Act.put, List.setIfInBounds_toArray, List.set_cons_zero, List.set_cons_succ]
        refine AnyE.take2 (i := 5) [26, 25, 15, 8, 7, 6] (oi := { dst := some 158, op := Go.Op.call { callee := Go.Callee.builtin Go.Builtin.len, args := #[Go.Operand.tmp 157], argTypes := #[29] }, type := 3, pos := "law.go:125", after := #[{ on := 4, ground := Go.Ground.data }, { on := 2, ground := Go.Ground.guard }], guard := some (2, false) }) (v := ?_) rfl (by kernel_rfl) (by kernel_rfl) (by kernel_rfl) (by kernel_rfl) (fun _ _ _ h => h) (Or.inl ⟨by rfl, ?_⟩) (by assumption) ?_
        rotate_left
        · (intro w0 hSw; (try dsimp only at hSw); go_split_ands; go_simp; with_reducible rfl)
        try simp only [Act.put, List.setIfInBounds_toArray, List.set_cons_zero, List.set_cons_succ]
        refine AnyE.take2 (i := 6) [26, 25, 15, 8, 7] (oi := { dst := some 159, op := Go.Op.binOp Go.BinOp.geq 3 (Go.Operand.tmp 156) (Go.Operand.tmp 158) 3, type := 4, pos := "law.go:125", after := #[{ on := 3, ground := Go.Ground.data }, { on := 5, ground := Go.Ground.data }, { on := 2, ground := Go.Ground.guard }], guard := some (2, false) }) (v := ?_) rfl (by kernel_rfl) (by kernel_rfl) (by kernel_rfl) (by kernel_rfl) (fun _ _ _ h => h) (Or.inl ⟨by rfl, ?_⟩) (by assumption) ?_
        rotate_left
        · (intro w0 hSw; (try dsimp only at hSw); go_split_ands; go_simp; with_reducible rfl)
        try simp only [Act.put, List.setIfInBounds_toArray, List.set_cons_zero, List.set_cons_succ]
        refine AnyE.take2 (i := 7) [26, 25, 15, 8] (oi := { dst := some 160, op := Go.Op.pick (Go.Operand.tmp 155) (Go.Operand.const (Go.Value.bool true)) (Go.Operand.tmp 159), type := 4, pos := "law.go:125", after := #[{ on := 2, ground := Go.Ground.data }, { on := 6, ground := Go.Ground.data }], guard := none }) (v := ?_) rfl (by kernel_rfl) (by kernel_rfl) (by kernel_rfl) (by kernel_rfl) (fun _ _ _ h => h) (Or.inl ⟨by rfl, ?_⟩) (by assumption) ?_
        rotate_left
        · (intro w0 hSw; (try dsimp only at hSw); go_split_ands; go_simp; with_reducible rfl)
        try simp only [Act.put, List.setIfInBounds_toArray, List.set_cons_zero, List.set_cons_succ]
        refine AnyE.take2 (i := 8) [26, 25, 15] (oi := { dst := some 161, op := Go.Op.move (Go.Operand.tmp 160), type := 4, pos := "law.go:125", after := #[{ on := 7, ground := Go.Ground.data }, { on := 2, ground := Go.Ground.chain }], guard := none }) (v := ?_) rfl (by kernel_rfl) (by kernel_rfl) (by kernel_rfl) (by kernel_rfl) (fun _ _ _ h => h) (Or.inl ⟨by rfl, ?_⟩) (by assumption) ?_
        rotate_left
        · (intro w0 hSw; (try dsimp only at hSw); go_split_ands; go_simp; with_reducible rfl)
        try simp only [Act.put, List.setIfInBounds_toArray, List.set_cons_zero, List.set_cons_succ]
        refine AnyE.take2 (i := 9) [26, 25, 15, 14, 13, 12, 11] (oi := { dst := some 162, op := Go.Op.move (Go.Operand.tmp 6), type := 63, pos := "law.go:125", after := #[{ on := 8, ground := Go.Ground.guard }], guard := some (8, false) }) (v := ?_) rfl (by kernel_rfl) (by kernel_rfl) (by kernel_rfl) (by kernel_rfl) (fun _ _ _ h => h) (Or.inl ⟨by rfl, ?_⟩) (by assumption) ?_
        rotate_left
        · (intro w0 hSw; (try dsimp only at hSw); go_split_ands; go_simp; with_reducible rfl)
        try simp only [Act.put, List.setIfInBounds_toArray, List.set_cons_zero, List.set_cons_succ]
        refine AnyE.take2 (i := 10) [26, 25, 15, 14, 13, 12, 11] (oi := { dst := some 163, op := Go.Op.move (Go.Operand.tmp 15), type := 3, pos := "law.go:125", after := #[{ on := 8, ground := Go.Ground.guard }], guard := some (8, false) }) (v := ?_) rfl (by kernel_rfl) (by kernel_rfl) (by kernel_rfl) (by kernel_rfl) (fun _ _ _ h => h) (Or.inl ⟨by rfl, ?_⟩) (by assumption) ?_
        rotate_left
        · (intro w0 hSw; (try dsimp only at hSw); go_split_ands; go_simp; with_reducible rfl)
        try simp only [Act.put, List.setIfInBounds_toArray, List.set_cons_zero, List.set_cons_succ]
        refine AnyE.take2 (i := 11) [26, 25, 15, 14, 13, 12] (oi := { dst := some 164, op := Go.Op.indexAddr 63 (Go.Operand.tmp 162) (Go.Operand.tmp 163), type := 0, pos := "law.go:125", after := #[{ on := 9, ground := Go.Ground.data }, { on := 10, ground := Go.Ground.data }, { on := 8, ground := Go.Ground.guard }], guard := some (8, false) }) (v := ?_) rfl (by kernel_rfl) (by kernel_rfl) (by kernel_rfl) (by kernel_rfl) (fun _ _ _ h => h) (Or.inl ⟨by rfl, ?_⟩) (by assumption) ?_
        rotate_left
        · (intro w0 hSw; (try dsimp only at hSw); go_split_ands; go_simp; with_reducible rfl)
        try simp only [Act.put, List.setIfInBounds_toArray, List.set_cons_zero, List.set_cons_succ]
        refine AnyE.take2 (i := 12) [26, 25, 15, 14, 13] (oi := { dst := some 165, op := Go.Op.load 4 (Go.Operand.tmp 164), type := 4, pos := "law.go:125", after := #[{ on := 11, ground := Go.Ground.data }, { on := 8, ground := Go.Ground.guard }], guard := some (8, false) }) (v := ?_) rfl (by kernel_rfl) (by kernel_rfl) (by kernel_rfl) (by kernel_rfl) (fun _ _ _ h => h) (Or.inl ⟨by rfl, ?_⟩) (by assumption) ?_
        rotate_left
        · (intro w0 hSw; (try dsimp only at hSw); go_split_ands; go_simp; with_reducible rfl)
        try simp only [Act.put, List.setIfInBounds_toArray, List.set_cons_zero, List.set_cons_succ]
        refine AnyE.take2 (i := 13) [26, 25, 15, 14] (oi := { dst := some 166, op := Go.Op.unOp Go.UnOp.not 4 (Go.Operand.tmp 165), type := 4, pos := "law.go:125", after := #[{ on := 12, ground := Go.Ground.data }, { on := 8, ground := Go.Ground.guard }], guard := some (8, false) }) (v := ?_) rfl (by kernel_rfl) (by kernel_rfl) (by kernel_rfl) (by kernel_rfl) (fun _ _ _ h => h) (Or.inl ⟨by rfl, ?_⟩) (by assumption) ?_
        rotate_left
        · (intro w0 hSw; (try dsimp only at hSw); go_split_ands; go_simp; with_reducible rfl)
        try simp only [Act.put, List.setIfInBounds_toArray, List.set_cons_zero, List.set_cons_succ]
        refine AnyE.take2 (i := 14) [26, 25, 15] (oi := { dst := some 167, op := Go.Op.pick (Go.Operand.tmp 161) (Go.Operand.const (Go.Value.bool true)) (Go.Operand.tmp 166), type := 4, pos := "law.go:125", after := #[{ on := 8, ground := Go.Ground.data }, { on := 13, ground := Go.Ground.data }], guard := none }) (v := ?_) rfl (by kernel_rfl) (by kernel_rfl) (by kernel_rfl) (by kernel_rfl) (fun _ _ _ h => h) (Or.inl ⟨by rfl, ?_⟩) (by assumption) ?_
        rotate_left
        · (intro w0 hSw; (try dsimp only at hSw); go_split_ands; go_simp; with_reducible rfl)
        try simp only [Act.put, List.setIfInBounds_toArray, List.set_cons_zero, List.set_cons_succ]
        refine AnyE.take2 (i := 15) [26, 25] (oi := { dst := some 168, op := Go.Op.move (Go.Operand.tmp 167), type := 4, pos := "law.go:125", after := #[{ on := 14, ground := Go.Ground.data }, { on := 8, ground := Go.Ground.chain }], guard := none }) (v := ?_) rfl (by kernel_rfl) (by kernel_rfl) (by kernel_rfl) (by kernel_rfl) (fun _ _ _ h => h) (Or.inl ⟨by rfl, ?_⟩) (by assumption) ?_
        rotate_left
        · (intro w0 hSw; (try dsimp only at hSw); go_split_ands; go_simp; with_reducible rfl)
        try simp only [Act.put, List.setIfInBounds_toArray, List.set_cons_zero, List.set_cons_succ]
        refine AnyE.take2 (i := 16) [26, 23, 20, 19, 18] (oi := { dst := some 169, op := Go.Op.move (Go.Operand.tmp 5), type := 62, pos := "law.go:125", after := #[{ on := 15, ground := Go.Ground.guard }], guard := some (15, false) }) (v := ?_) rfl (by kernel_rfl) (by kernel_rfl) (by kernel_rfl) (by kernel_rfl) (fun _ _ _ h => h) (Or.inl ⟨by rfl, ?_⟩) (by assumption) ?_
        rotate_left
        · (intro w0 hSw; (try dsimp only at hSw); go_split_ands; go_simp; with_reducible rfl)
        try simp only [Act.put, List.setIfInBounds_toArray, List.set_cons_zero, List.set_cons_succ]
        refine AnyE.take2 (i := 17) [26, 23, 20, 19, 18] (oi := { dst := some 170, op := Go.Op.move (Go.Operand.tmp 15), type := 3, pos := "law.go:125", after := #[{ on := 15, ground := Go.Ground.guard }], guard := some (15, false) }) (v := ?_) rfl (by kernel_rfl) (by kernel_rfl) (by kernel_rfl) (by kernel_rfl) (fun _ _ _ h => h) (Or.inl ⟨by rfl, ?_⟩) (by assumption) ?_
        rotate_left
        · (intro w0 hSw; (try dsimp only at hSw); go_split_ands; go_simp; with_reducible rfl)
        try simp only [Act.put, List.setIfInBounds_toArray, List.set_cons_zero, List.set_cons_succ]
        refine AnyE.take2 (i := 18) [26, 23, 20, 19] (oi := { dst := some 171, op := Go.Op.indexAddr 62 (Go.Operand.tmp 169) (Go.Operand.tmp 170), type := 0, pos := "law.go:125", after := #[{ on := 16, ground := Go.Ground.data }, { on := 17, ground := Go.Ground.data }, { on := 15, ground := Go.Ground.guard }], guard := some (15, false) }) (v := ?_) rfl (by kernel_rfl) (by kernel_rfl) (by kernel_rfl) (by kernel_rfl) (fun _ _ _ h => h) (Or.inl ⟨by rfl, ?_⟩) (by assumption) ?_
        rotate_left
        · (intro w0 hSw; (try dsimp only at hSw); go_split_ands; go_simp; with_reducible rfl)
        try simp only [Act.put, List.setIfInBounds_toArray, List.set_cons_zero, List.set_cons_succ]
        refine AnyE.take2 (i := 19) [26, 23, 20] (oi := { dst := some 172, op := Go.Op.fieldAddr 71 (Go.Operand.tmp 171) 0, type := 0, pos := "law.go:125", after := #[{ on := 18, ground := Go.Ground.data }, { on := 15, ground := Go.Ground.guard }], guard := some (15, false) }) (v := ?_) rfl (by kernel_rfl) (by kernel_rfl) (by kernel_rfl) (by kernel_rfl) (fun _ _ _ h => h) (Or.inl ⟨by rfl, ?_⟩) (by assumption) ?_
        rotate_left
        · (intro w0 hSw; (try dsimp only at hSw); go_split_ands; go_simp; with_reducible rfl)
        try simp only [Act.put, List.setIfInBounds_toArray, List.set_cons_zero, List.set_cons_succ]
        refine AnyE.take2 (i := 20) [26, 23] (oi := { dst := some 173, op := Go.Op.load 48 (Go.Operand.tmp 172), type := 48, pos := "law.go:125", after := #[{ on := 19, ground := Go.Ground.data }, { on := 15, ground := Go.Ground.guard }], guard := some (15, false) }) (v := ?_) rfl (by kernel_rfl) (by kernel_rfl) (by kernel_rfl) (by kernel_rfl) (fun _ _ _ h => h) (Or.inl ⟨by rfl, ?_⟩) (by assumption) ?_
        rotate_left
        · (intro w0 hSw; (try dsimp only at hSw); go_split_ands; go_simp; with_reducible rfl)
        try simp only [Act.put, List.setIfInBounds_toArray, List.set_cons_zero, List.set_cons_succ]
        refine AnyE.take2 (i := 21) [26, 23, 22] (oi := { dst := some 174, op := Go.Op.fieldAddr 71 (Go.Operand.tmp 12) 0, type := 0, pos := "law.go:125", after := #[{ on := 15, ground := Go.Ground.guard }], guard := some (15, false) }) (v := ?_) rfl (by kernel_rfl) (by kernel_rfl) (by kernel_rfl) (by kernel_rfl) (fun _ _ _ h => h) (Or.inl ⟨by rfl, ?_⟩) (by assumption) ?_
        rotate_left
        · (intro w0 hSw; (try dsimp only at hSw); go_split_ands; go_simp; with_reducible rfl)
        try simp only [Act.put, List.setIfInBounds_toArray, List.set_cons_zero, List.set_cons_succ]
        refine AnyE.take2 (i := 22) [26, 23] (oi := { dst := some 175, op := Go.Op.load 48 (Go.Operand.tmp 174), type := 48, pos := "law.go:125", after := #[{ on := 21, ground := Go.Ground.data }, { on := 15, ground := Go.Ground.guard }], guard := some (15, false) }) (v := ?_) rfl (by kernel_rfl) (by kernel_rfl) (by kernel_rfl) (by kernel_rfl) (fun _ _ _ h => h) (Or.inl ⟨by rfl, ?_⟩) (by assumption) ?_
        rotate_left
        · (intro w0 hSw; (try dsimp only at hSw); go_split_ands; go_simp; with_reducible rfl)
        try simp only [Act.put, List.setIfInBounds_toArray, List.set_cons_zero, List.set_cons_succ]
        refine AnyE.ready (rs := [23]) (by kernel_rfl) (by simp) ?_
        refine AllE.cons (o := { dst := some 176, op := Go.Op.call { callee := Go.Callee.value (Go.Operand.func 30), args := #[Go.Operand.tmp 173, Go.Operand.tmp 175], argTypes := #[48, 48] }, type := 4, pos := "law.go:125", after := #[{ on := 20, ground := Go.Ground.data }, { on := 22, ground := Go.Ground.data }, { on := 15, ground := Go.Ground.chain }, { on := 15, ground := Go.Ground.guard }], guard := some (15, false) }) rfl (fun KK hKK => ?_) AllE.nil
        go_simp
        go_at_call 30
        refine (HInt.out _ HJd.out).mono ?_
        rintro e u2 ⟨rfl, hb5⟩
        have HJu := Lib.hid (HJd.out.below hb5)
        have HLu : Hid (Ints u2 (some ⟨b3, o3, none⟩) [(k : Int) + (sz : Int)]) := Lib.hid (HLd.out.kept (Kept.of hb5))
        clear hb5
        refine hKK.out _ _ (HHt.out _ HJu.out) (fun hHeld => ?_)
        clear hKK KK
        try simp only [Act.put, List.setIfInBounds_toArray, List.set_cons_zero, List.set_cons_succ]
        refine AnyE.take2 (i := 24) [26, 25] (oi := { dst := some 177, op := Go.Op.unOp Go.UnOp.not 4 (Go.Operand.tmp 176), type := 4, pos := "law.go:125", after := #[{ on := 23, ground := Go.Ground.data }, { on := 15, ground := Go.Ground.guard }], guard := some (15, false) }) (v := ?_) rfl (by kernel_rfl) (by kernel_rfl) (by kernel_rfl) (by kernel_rfl) (fun _ _ _ h => h) (Or.inl ⟨by rfl, ?_⟩) (by assumption) ?_
        rotate_left
        · (intro w0 hSw; (try dsimp only at hSw); go_split_ands; go_simp; with_reducible rfl)
        try simp only [Act.put, List.setIfInBounds_toArray, List.set_cons_zero, List.set_cons_succ]
        refine AnyE.take2 (i := 25) [26] (oi := { dst := some 178, op := Go.Op.pick (Go.Operand.tmp 168) (Go.Operand.const (Go.Value.bool true)) (Go.Operand.tmp 177), type := 4, pos := "law.go:125", after := #[{ on := 15, ground := Go.Ground.data }, { on := 24, ground := Go.Ground.data }], guard := none }) (v := ?_) rfl (by kernel_rfl) (by kernel_rfl) (by kernel_rfl) (by kernel_rfl) (fun _ _ _ h => h) (Or.inl ⟨by rfl, ?_⟩) (by assumption) ?_
        rotate_left
        · (intro w0 hSw; (try dsimp only at hSw); go_split_ands; go_simp; with_reducible rfl)
        try simp only [Act.put, List.setIfInBounds_toArray, List.set_cons_zero, List.set_cons_succ]
        refine AnyE.take2 (i := 26) [] (oi := { dst := some 179, op := Go.Op.move (Go.Operand.tmp 178), type := 4, pos := "law.go:125", after := #[{ on := 25, ground := Go.Ground.data }, { on := 23, ground := Go.Ground.chain }], guard := none }) (v := ?_) rfl (by kernel_rfl) (by kernel_rfl) (by kernel_rfl) (by kernel_rfl) (fun _ _ _ h => h) (Or.inl ⟨by rfl, ?_⟩) (by assumption) ?_
        rotate_left
        · (intro w0 hSw; (try dsimp only at hSw); go_split_ands; go_simp; with_reducible rfl)
        try simp only [Act.put, List.setIfInBounds_toArray, List.set_cons_zero, List.set_cons_succ]
        refine AnyE.take2 (i := 27) [34, 31, 30, 29] (oi := { dst := some 180, op := Go.Op.move (Go.Operand.tmp 5), type := 62, pos := "law.go:125", after := #[{ on := 26, ground := Go.Ground.guard }], guard := some (26, false) }) (v := ?_) rfl (by kernel_rfl) (by kernel_rfl) (by kernel_rfl) (by kernel_rfl) (fun _ _ _ h => h) (Or.inl ⟨by rfl, ?_⟩) (by assumption) ?_
        rotate_left
        · (intro w0 hSw; (try dsimp only at hSw); go_split_ands; go_simp; with_reducible rfl)
        try simp only [Act.put, List.setIfInBounds_toArray, List.set_cons_zero, List.set_cons_succ]
        refine AnyE.take2 (i := 28) [34, 31, 30, 29] (oi := { dst := some 181, op := Go.Op.move (Go.Operand.tmp 15), type := 3, pos := "law.go:125", after := #[{ on := 26, ground := Go.Ground.guard }], guard := some (26, false) }) (v := ?_) rfl (by kernel_rfl) (by kernel_rfl) (by kernel_rfl) (by kernel_rfl) (fun _ _ _ h => h) (Or.inl ⟨by rfl, ?_⟩) (by assumption) ?_
        rotate_left
        · (intro w0 hSw; (try dsimp only at hSw); go_split_ands; go_simp; with_reducible rfl)
        try simp only [Act.put, List.setIfInBounds_toArray, List.set_cons_zero, List.set_cons_succ]
        refine AnyE.take2 (i := 29) [34, 31, 30] (oi := { dst := some 182, op := Go.Op.indexAddr 62 (Go.Operand.tmp 180) (Go.Operand.tmp 181), type := 0, pos := "law.go:125", after := #[{ on := 27, ground := Go.Ground.data }, { on := 28, ground := Go.Ground.data }, { on := 26, ground := Go.Ground.guard }], guard := some (26, false) }) (v := ?_) rfl (by kernel_rfl) (by kernel_rfl) (by kernel_rfl) (by kernel_rfl) (fun _ _ _ h => h) (Or.inl ⟨by rfl, ?_⟩) (by assumption) ?_
        rotate_left
        · (intro w0 hSw; (try dsimp only at hSw); go_split_ands; go_simp; with_reducible rfl)
        try simp only [Act.put, List.setIfInBounds_toArray, List.set_cons_zero, List.set_cons_succ]
        refine AnyE.take2 (i := 30) [34, 31] (oi := { dst := some 183, op := Go.Op.fieldAddr 71 (Go.Operand.tmp 182) 1, type := 0, pos := "law.go:125", after := #[{ on := 29, ground := Go.Ground.data }, { on := 26, ground := Go.Ground.guard }], guard := some (26, false) }) (v := ?_) rfl (by kernel_rfl) (by kernel_rfl) (by kernel_rfl) (by kernel_rfl) (fun _ _ _ h => h) (Or.inl ⟨by rfl, ?_⟩) (by assumption) ?_
        rotate_left
        · (intro w0 hSw; (try dsimp only at hSw); go_split_ands; go_simp; with_reducible rfl)
        try simp only [Act.put, List.setIfInBounds_toArray, List.set_cons_zero, List.set_cons_succ]
        refine AnyE.take2 (i := 31) [34] (oi := { dst := some 184, op := Go.Op.load 3 (Go.Operand.tmp 183), type := 3, pos := "law.go:125", after := #[{ on := 30, ground := Go.Ground.data }, { on := 26, ground := Go.Ground.guard }], guard := some (26, false) }) (v := ?_) rfl (by kernel_rfl) (by kernel_rfl) (by kernel_rfl) (by kernel_rfl) (fun _ _ _ h => h) (Or.inl ⟨by rfl, ?_⟩) (by assumption) ?_
        rotate_left
        · (intro w0 hSw; (try dsimp only at hSw); go_split_ands; go_simp; with_reducible rfl)
        try simp only [Act.put, List.setIfInBounds_toArray, List.set_cons_zero, List.set_cons_succ]
        refine AnyE.take2 (i := 32) [34, 33] (oi := { dst := some 185, op := Go.Op.fieldAddr 71 (Go.Operand.tmp 12) 1, type := 0, pos := "law.go:125", after := #[{ on := 26, ground := Go.Ground.guard }], guard := some (26, false) }) (v := ?_) rfl (by kernel_rfl) (by kernel_rfl) (by kernel_rfl) (by kernel_rfl) (fun _ _ _ h => h) (Or.inl ⟨by rfl, ?_⟩) (by assumption) ?_
        rotate_left
        · (intro w0 hSw; (try dsimp only at hSw); go_split_ands; go_simp; with_reducible rfl)
        try simp only [Act.put, List.setIfInBounds_toArray, List.set_cons_zero, List.set_cons_succ]
        refine AnyE.take2 (i := 33) [34] (oi := { dst := some 186, op := Go.Op.load 3 (Go.Operand.tmp 185), type := 3, pos := "law.go:125", after := #[{ on := 32, ground := Go.Ground.data }, { on := 26, ground := Go.Ground.guard }], guard := some (26, false) }) (v := ?_) rfl (by kernel_rfl) (by kernel_rfl) (by kernel_rfl) (by kernel_rfl) (fun _ _ _ h => h) (Or.inl ⟨by rfl, ?_⟩) (by assumption) ?_
        rotate_left
        · (intro w0 hSw; (try dsimp only at hSw); go_split_ands; go_simp; with_reducible rfl)
        try simp only [Act.put, List.setIfInBounds_toArray, List.set_cons_zero, List.set_cons_succ]
        refine AnyE.take2 (i := 34) [] (oi := { dst := some 187, op := Go.Op.binOp Go.BinOp.neq 3 (Go.Operand.tmp 184) (Go.Operand.tmp 186) 3, type := 4, pos := "law.go:125", after := #[{ on := 31, ground := Go.Ground.data }, { on := 33, ground := Go.Ground.data }, { on := 26, ground := Go.Ground.guard }], guard := some (26, false) }) (v := ?_) rfl (by kernel_rfl) (by kernel_rfl) (by kernel_rfl) (by kernel_rfl) (fun _ _ _ h => h) (Or.inl ⟨by rfl, ?_⟩) (by assumption) ?_
        rotate_left
        · (intro w0 hSw; (try dsimp only at hSw); go_split_ands; go_simp; with_reducible rfl)
        try simp only [Act.put, List.setIfInBounds_toArray, List.set_cons_zero, List.set_cons_succ]
        refine AnyE.ready (rs := [35]) (by kernel_rfl) (by simp) ?_
        refine AllE.last (o := { dst := some 188, op := Go.Op.pick (Go.Operand.tmp 179) (Go.Operand.const (Go.Value.bool true)) (Go.Operand.tmp 187), type := 4, pos := "law.go:125", after := #[{ on := 26, ground := Go.Ground.data }, { on := 34, ground := Go.Ground.data }], guard := none }) rfl (by kernel_rfl) (fun KK hKK => ?_)
        go_simp
        refine hKK.out _ _ ?_
        clear hKK KK
        try simp only [Act.put, List.setIfInBounds_toArray, List.set_cons_zero, List.set_cons_succ]
        go_wp2
        exact ⟨⟨q + 1, by omega, by go_num, HJu, HLu⟩, by simp [intOf]; omega⟩
end Go.Proofs.Ytpiafgmncfibmaa.Vf
