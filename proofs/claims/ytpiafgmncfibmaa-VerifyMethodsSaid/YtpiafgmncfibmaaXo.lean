import Derived.StillTailTactics
import Derived.Laws.BitsLemmas
import Derived.IntWalk
import Derived.Laws.BitsAllLaws
import Derived.Deep.DrawnRows
import Derived.Test.YtpiafgmncfibmaaXn
import Derived.Test.YtpiafgmncfibmaaWd
import Derived.Test.YtpiafgmncfibmaaFw
import Derived.Test.YtpiafgmncfibmaaRows
import Derived.WalkKit
import Derived.ProofKit
import Derived.OpenShut
import Derived.Deep.QuietTactic
import Derived.BigQuiet
import Derived.Outline
import Derived.WalkSmall
import Derived.WalkLawsBesides
import Derived.WalkSpells
import Derived.BigGuardPart
import Derived.RegionTactic
import Derived.Deep.RegionHeld3
import Derived.Lib.Hide
import Derived.Deep.MidRow
import Derived.Below
import Derived.Deep.RegionWith
import Derived.Deep.OwnRows
import Derived.Deep.AppendLies
import Derived.Deep.RegionLaw
import Derived.Deep.CutBlock
import Derived.Deep.DeepCutAuto
namespace Go.Proofs.Ytpiafgmncfibmaa.Vf
open Go.ChangeShapes Go.WideShapes Go.ChangeAt Go.RowKit
set_option linter.unusedVariables false

set_option maxRecDepth 100000 in
set_option maxHeartbeats 20000000 in
theorem methods_law (P : Pg) (A : Ad) (m : Int) (w : World) (h : PgAt w P A) (hf : Fits P A) (hc : Caps P A) : Calls Try.prog 9 #[.agg (P.cells A), .int .i64 m] w fun e w' => e = .returned (.bool true) ∧ Below w.heap.size w w' := by
  have HP := Lib.hid h
  have HFt := Lib.hid hf
  have HCp := Lib.hid hc
  have HB0 : Hid (Bx (w.alloc (.cells #[.slice A.pa P.np A.pc, .slice A.ca P.nc A.cc, .slice A.ma P.nm A.mc] 26)) w.heap.size #[.slice A.pa P.np A.pc, .slice A.ca P.nc A.cc, .slice A.ma P.nm A.mc] 26 ∧ Below w.heap.size w (w.alloc (.cells #[.slice A.pa P.np A.pc, .slice A.ca P.nc A.cc, .slice A.ma P.nm A.mc] 26))) := Lib.hid ⟨Bx.new _ _ _, (Below.refl _ _).alloc (Nat.le_refl _) _⟩
  clear h hf hc
  show Calls Try.prog 9 #[.agg #[.slice A.pa P.np A.pc, .slice A.ca P.nc A.cc, .slice A.ma P.nm A.mc], .int .i64 m] w _
  go_enter Try.func9, Try.ntmps9
  go_upto_region 1 with fail
  obtain ⟨W0, hW0⟩ : ∃ q, q = w.alloc (.cells #[.slice A.pa P.np A.pc, .slice A.ca P.nc A.cc, .slice A.ma P.nm A.mc] 26) := ⟨_, rfl⟩
  rw [← hW0] at HB0 ⊢
  clear hW0
  have HKn := Lib.hid (known_c W0)
  go_wp2_with fail
  refine HKn.out.mono ?_
  rintro e W1 ⟨rfl, hb⟩
  have HB1 : Hid (Bx W1 w.heap.size #[.slice A.pa P.np A.pc, .slice A.ca P.nc A.cc, .slice A.ma P.nm A.mc] 26 ∧ Below w.heap.size w W1) := Lib.hid ⟨HB0.out.1.below hb, HB0.out.2.trans (hb.mono HB0.out.2.size)⟩
  clear hb HKn HB0
  have x0 : W1.cell? ⟨w.heap.size, 0, none⟩ = some (.slice A.pa P.np A.pc) := HB1.out.1.cell 0
  have x1 : W1.cell? ⟨w.heap.size, 1, none⟩ = some (.slice A.ca P.nc A.cc) := HB1.out.1.cell 1
  have x2 : W1.cell? ⟨w.heap.size, 2, none⟩ = some (.slice A.ma P.nm A.mc) := HB1.out.1.cell 2
  have HFw := Lib.hid (few_c P A W1 (HP.out.kept (Kept.of HB1.out.2)) HFt.out)
  go_wp2_with fail
  clear x0 x1 x2
  refine HFw.out.mono ?_
  rintro e W2 ⟨⟨fb, rfl⟩, hb⟩
  have HB2 : Hid (Bx W2 w.heap.size #[.slice A.pa P.np A.pc, .slice A.ca P.nc A.cc, .slice A.ma P.nm A.mc] 26 ∧ Below w.heap.size w W2) := Lib.hid ⟨HB1.out.1.below hb, HB1.out.2.trans (hb.mono HB1.out.2.size)⟩
  clear hb HFw HB1
  have x0 : W2.cell? ⟨w.heap.size, 0, none⟩ = some (.slice A.pa P.np A.pc) := HB2.out.1.cell 0
  have x1 : W2.cell? ⟨w.heap.size, 1, none⟩ = some (.slice A.ca P.nc A.cc) := HB2.out.1.cell 1
  have x2 : W2.cell? ⟨w.heap.size, 2, none⟩ = some (.slice A.ma P.nm A.mc) := HB2.out.1.cell 2
  cases fb with
  | false => go_wp2; go_ret; exact ⟨rfl, HB2.out.2⟩
  | true =>
  have HMP : Hid (∀ V, Below w.heap.size w V → Calls Try.prog 24 #[.agg #[.slice A.pa P.np A.pc, .slice A.ca P.nc A.cc, .slice A.ma P.nm A.mc], .int .i64 m] V (MetP P m V)) := Lib.hid fun V hV => Method_c P A m V (HP.out.kept (Kept.of hV)) HFt.out HCp.out
  have HMD : Hid (∀ V, Below w.heap.size w V → Calls Try.prog 25 #[.agg #[.slice A.pa P.np A.pc, .slice A.ca P.nc A.cc, .slice A.ma P.nm A.mc], .int .i64 m] V (MetP P m V)) := Lib.hid fun V hV => Method_x P A m V (HP.out.kept (Kept.of hV)) HFt.out HCp.out
  have HPP : Hid (∀ V, Below w.heap.size w V → Calls Try.prog 26 #[.agg #[.slice A.pa P.np A.pc, .slice A.ca P.nc A.cc, .slice A.ma P.nm A.mc]] V (PrgP P V)) := Lib.hid fun V hV => Program_c P A V (HP.out.kept (Kept.of hV)) HFt.out HCp.out
  have HPD : Hid (∀ V, Below w.heap.size w V → Calls Try.prog 27 #[.agg #[.slice A.pa P.np A.pc, .slice A.ca P.nc A.cc, .slice A.ma P.nm A.mc]] V (PrgP P V)) := Lib.hid fun V hV => Program_x P A V (HP.out.kept (Kept.of hV)) HFt.out HCp.out
  have HSP : Hid (∀ V, Below w.heap.size w V → Calls Try.prog 28 #[.agg #[.slice A.pa P.np A.pc, .slice A.ca P.nc A.cc, .slice A.ma P.nm A.mc], .int .i64 m] V (ShsP P A m V)) := Lib.hid fun V hV => Shapes_c P A m V (HP.out.kept (Kept.of hV)) HFt.out HCp.out
  have HSD : Hid (∀ V, Below w.heap.size w V → Calls Try.prog 29 #[.agg #[.slice A.pa P.np A.pc, .slice A.ca P.nc A.cc, .slice A.ma P.nm A.mc], .int .i64 m] V (ShsX P A m V)) := Lib.hid fun V hV => Shapes_x P A m V (HP.out.kept (Kept.of hV)) HFt.out HCp.out
  clear HP HFt HCp
  go_wp2_with fail
  clear x0 x1 x2
  refine (HMP.out _ HB2.out.2).mono ?_
  rintro e W3 ⟨rfl, hb⟩
  have HB3 : Hid (Bx W3 w.heap.size #[.slice A.pa P.np A.pc, .slice A.ca P.nc A.cc, .slice A.ma P.nm A.mc] 26 ∧ Below w.heap.size w W3) := Lib.hid ⟨HB2.out.1.below hb, HB2.out.2.trans (hb.mono HB2.out.2.size)⟩
  clear hb HB2
  have x0 : W3.cell? ⟨w.heap.size, 0, none⟩ = some (.slice A.pa P.np A.pc) := HB3.out.1.cell 0
  have x1 : W3.cell? ⟨w.heap.size, 1, none⟩ = some (.slice A.ca P.nc A.cc) := HB3.out.1.cell 1
  have x2 : W3.cell? ⟨w.heap.size, 2, none⟩ = some (.slice A.ma P.nm A.mc) := HB3.out.1.cell 2
  generalize hq1 : (methR P m).1 = q1
  generalize hq2 : (methR P m).2 = q2
  have HQ1 := Lib.hid hq1
  have HQ2 := Lib.hid hq2
  clear hq1 hq2
  go_wp2_with fail
  clear x0 x1 x2
  refine (HMD.out _ HB3.out.2).mono ?_
  rintro e W4 ⟨rfl, hb⟩
  rw [HQ1.out, HQ2.out]
  have HB4 : Hid (Bx W4 w.heap.size #[.slice A.pa P.np A.pc, .slice A.ca P.nc A.cc, .slice A.ma P.nm A.mc] 26 ∧ Below w.heap.size w W4) := Lib.hid ⟨HB3.out.1.below hb, HB3.out.2.trans (hb.mono HB3.out.2.size)⟩
  clear hb HB3
  have x0 : W4.cell? ⟨w.heap.size, 0, none⟩ = some (.slice A.pa P.np A.pc) := HB4.out.1.cell 0
  have x1 : W4.cell? ⟨w.heap.size, 1, none⟩ = some (.slice A.ca P.nc A.cc) := HB4.out.1.cell 1
  have x2 : W4.cell? ⟨w.heap.size, 2, none⟩ = some (.slice A.ma P.nm A.mc) := HB4.out.1.cell 2
  have n1 : ((q1 : Int) != (q1 : Int)) = false := by simp
  have n2 : (q2 != q2) = false := by simp
  go_wp2_with fail
  clear x0 x1 x2
  refine (HPP.out _ HB4.out.2).mono ?_
  rintro e W5 ⟨rfl, hb⟩
  have HB5 : Hid (Bx W5 w.heap.size #[.slice A.pa P.np A.pc, .slice A.ca P.nc A.cc, .slice A.ma P.nm A.mc] 26 ∧ Below w.heap.size w W5) := Lib.hid ⟨HB4.out.1.below hb, HB4.out.2.trans (hb.mono HB4.out.2.size)⟩
  clear hb HB4
  have x0 : W5.cell? ⟨w.heap.size, 0, none⟩ = some (.slice A.pa P.np A.pc) := HB5.out.1.cell 0
  have x1 : W5.cell? ⟨w.heap.size, 1, none⟩ = some (.slice A.ca P.nc A.cc) := HB5.out.1.cell 1
  have x2 : W5.cell? ⟨w.heap.size, 2, none⟩ = some (.slice A.ma P.nm A.mc) := HB5.out.1.cell 2
  generalize hr1 : (progR P).1 = r1
  generalize hr2 : (progR P).2.1 = r2
  generalize hr3 : (progR P).2.2 = r3
  have HR := Lib.hid (And.intro hr1 (And.intro hr2 hr3))
  clear hr1 hr2 hr3
  go_wp2_with fail
  clear x0 x1 x2
  refine (HPD.out _ HB5.out.2).mono ?_
  rintro e W6 ⟨rfl, hb⟩
  rw [HR.out.1, HR.out.2.1, HR.out.2.2]
  have HB6 : Hid (Bx W6 w.heap.size #[.slice A.pa P.np A.pc, .slice A.ca P.nc A.cc, .slice A.ma P.nm A.mc] 26 ∧ Below w.heap.size w W6) := Lib.hid ⟨HB5.out.1.below hb, HB5.out.2.trans (hb.mono HB5.out.2.size)⟩
  clear hb HB5
  have x0 : W6.cell? ⟨w.heap.size, 0, none⟩ = some (.slice A.pa P.np A.pc) := HB6.out.1.cell 0
  have x1 : W6.cell? ⟨w.heap.size, 1, none⟩ = some (.slice A.ca P.nc A.cc) := HB6.out.1.cell 1
  have x2 : W6.cell? ⟨w.heap.size, 2, none⟩ = some (.slice A.ma P.nm A.mc) := HB6.out.1.cell 2
  have n3 : ((r1 : Int) != (r1 : Int)) = false := by simp
  have n4 : ((r2 : Int) != (r2 : Int)) = false := by simp
  have n5 : (r3 != r3) = false := by simp
  go_wp2_with fail
  clear x0 x1 x2
  refine (HSP.out _ HB6.out.2).mono ?_
  rintro e W7 ⟨hb, he1⟩
  have HB7 : Hid (Bx W7 w.heap.size #[.slice A.pa P.np A.pc, .slice A.ca P.nc A.cc, .slice A.ma P.nm A.mc] 26 ∧ Below w.heap.size w W7) := Lib.hid ⟨HB6.out.1.below hb, HB6.out.2.trans (hb.mono HB6.out.2.size)⟩
  have hb7 := hb
  clear hb HB6
  have x0 : W7.cell? ⟨w.heap.size, 0, none⟩ = some (.slice A.pa P.np A.pc) := HB7.out.1.cell 0
  have x1 : W7.cell? ⟨w.heap.size, 1, none⟩ = some (.slice A.ca P.nc A.cc) := HB7.out.1.cell 1
  have x2 : W7.cell? ⟨w.heap.size, 2, none⟩ = some (.slice A.ma P.nm A.mc) := HB7.out.1.cell 2
  rw [HQ2.out] at he1
  by_cases h0 : q2 = 0
  case neg =>
    rw [if_neg h0] at he1
    subst he1
    have HN := Lib.hid h0
    clear h0 hb7
    go_wp2_with fail
    clear x0 x1 x2
    refine (HSD.out _ HB7.out.2).mono ?_
    rintro e W8 ⟨hb, he2⟩
    rw [HQ2.out, if_neg HN.out] at he2
    subst he2
    have HB8 := Lib.hid (HB7.out.2.trans (hb.mono HB7.out.2.size))
    clear hb
    go_wp2_with fail
    go_loopw [17] (fun i wr => i = .int .i64 0 ∧ Hid (Below w.heap.size w wr)) (fun i _ => 0)
    case atStart => exact ⟨rfl, HB8⟩
    case round =>
      obtain ⟨rfl, HW⟩ := hrel
      go_wp2
      go_ret
      exact ⟨rfl, HW.out⟩
  rw [if_pos h0] at he1
  subst h0
  obtain ⟨hck, m0, m1, hfr, K, X, lo, rfl, rfl, hm, hK, hw0, hfl, rfl⟩ := he1
  have HFl := Lib.hid hfl
  have HKm := Lib.hid hm
  have hn1 := hK.n1
  clear hck hw0 hfl hfr hb7 hm hK
  go_wp2_with fail
  clear x0 x1 x2
  refine (HSD.out _ HB7.out.2).mono ?_
  rintro e W8 ⟨hb, he2⟩
  rw [HQ2.out, if_pos rfl] at he2
  obtain ⟨K2, X2, e1, e2, e3, hK2, hst, rfl⟩ := he2
  have HB8 := Lib.hid (HB7.out.2.trans (hb.mono HB7.out.2.size))
  have HN2 : Hid (K2.n = K.n) := Lib.hid (by unfold Fk.n; rw [e1, e3, HKm.out])
  have HSt := Lib.hid hst
  replace HFl := Lib.hid (HFl.out.below hb)
  rw [HN2.out]
  clear hb hst hK2 e1 e2 e3
  obtain ⟨n, hn⟩ : ∃ q, K.n = q := ⟨_, rfl⟩
  have HNn := Lib.hid hn
  rw [hn] at hn1
  rw [hn]
  clear hn
  obtain ⟨F, hF⟩ : ∃ q, flowF K.P m.toNat = q := ⟨_, rfl⟩
  rw [hF] at HSt HFl
  clear hF
  have nn : ((n : Int) != (n : Int)) = false := by simp
  have nz : ((0 : Int) != 0) = false := by decide
  have HC1 : Hid (∀ V k, k < n → Below W8.heap.size W8 V → V.cell? ⟨K.rh, k, none⟩ = some (.bool (F.H k)) ∧ V.cell? ⟨K2.rh, k, none⟩ = some (.bool (F.H k)) ∧ V.cell? ⟨K.rs, k * 2, none⟩ = some (.slice (X.a k) (F.S k).l.length (X.c k)) ∧ V.cell? ⟨K.rs, k * 2 + 1, none⟩ = some (.int .i64 (F.S k).h) ∧ V.cell? ⟨K2.rs, k * 2, none⟩ = some (.slice (X2.a k) (F.S k).l.length (X2.c k)) ∧ V.cell? ⟨K2.rs, k * 2 + 1, none⟩ = some (.int .i64 (F.S k).h)) := Lib.hid fun V k hk hV => by
    have k1 : k < K.n := by rw [HNn.out]; exact hk
    have k2 : k < K2.n := by rw [HN2.out]; exact k1
    exact ⟨(HFl.out.h.below hV).cell k1, (HSt.out.h.below hV).cell k2, (HFl.out.s.below hV).cell (j := 0) k1 (by omega), (HFl.out.s.below hV).cell (j := 1) k1 (by omega), (HSt.out.s.below hV).cell (j := 0) k2 (by omega), (HSt.out.s.below hV).cell (j := 1) k2 (by omega)⟩
  have HIn : Hid (∀ V k, k < n → Below W8.heap.size W8 V → Calls Try.prog 30 #[.slice (X.a k) (F.S k).l.length (X.c k), .slice (X2.a k) (F.S k).l.length (X2.c k)] V fun e w' => e = .returned (.bool true) ∧ Below V.heap.size V w') := Lib.hid fun V k hk hV => by
    have k1 : k < K.n := by rw [HNn.out]; exact hk
    have k2 : k < K2.n := by rw [HN2.out]; exact k1
    exact ints_x (X.a k) (X2.a k) (X.c k) (X2.c k) (F.S k).l V ((HFl.out.ti k k1).kept (Kept.of hV)) ((HSt.out.ti k k2).kept (Kept.of hV)) (by have := HFl.out.tl k k1; omega)
  go_wp2_with fail
  go_loopw [17] (fun i wr => ∃ k : Nat, k ≤ n ∧ i = .int .i64 k ∧ Hid (Below W8.heap.size W8 wr)) (fun i _ => n - (intOf i).toNat)
  case atStart => exact ⟨0, Nat.zero_le _, rfl, Lib.hid (Below.refl _ _)⟩
  case round =>
    obtain ⟨k, hk, rfl, HW⟩ := hrel
    by_cases hkn : k < n
    · have hki : (k : Int) < n := by omega
      have HInk := Lib.hid (fun V hV => HIn.out V k hkn hV)
      have HX := Lib.hid (fun V hV => HC1.out V k hkn hV)
      generalize F.H k = hbit at HX
      generalize (F.S k).h = hld at HX
      generalize (F.S k).l.length = sl at HX HInk
      generalize X.a k = xa at HX HInk
      generalize X.c k = xc at HX HInk
      generalize X2.a k = ya at HX HInk
      generalize X2.c k = yc at HX HInk
      have db : (hbit != hbit) = false := by simp
      have dh : (hld != hld) = false := by simp
      go_upto_region 20 with fail
      have HV : Hid (Below W8.heap.size W8 wr.drew) := Lib.hid HW.out.drew
      refine region_e 35 (fun w' => w'.cell? ⟨K.rh, k, none⟩ = some (.bool hbit) ∧ w'.cell? ⟨K2.rh, k, none⟩ = some (.bool hbit) ∧ w'.cell? ⟨K.rs, k * 2, none⟩ = some (.slice xa sl xc) ∧ w'.cell? ⟨K.rs, k * 2 + 1, none⟩ = some (.int .i64 hld) ∧ w'.cell? ⟨K2.rs, k * 2, none⟩ = some (.slice ya sl yc) ∧ w'.cell? ⟨K2.rs, k * 2 + 1, none⟩ = some (.int .i64 hld)) (by kernel_rfl) (HX.out _ HV.out) (fun hHeld => ?_)
      generalize wr.drew = u0 at hHeld HV ⊢
      refine AnyE.take2 (i := 0) [23, 22, 9, 8, 3, 2] (oi := { dst := some 105, op := Go.Op.move (Go.Operand.tmp 14), type := 63, pos := "law.go:60", after := #[], guard := none }) (v := ?_) rfl (by kernel_rfl) (by kernel_rfl) (by kernel_rfl) (by kernel_rfl) (fun _ _ _ h => h) (Or.inl ⟨by rfl, ?_⟩) (by assumption) ?_
      rotate_left
      · (intro w0 hSw; (try dsimp only at hSw); go_split_ands; go_simp; with_reducible rfl)
      try simp only [Act.put, List.setIfInBounds_toArray, List.set_cons_zero, List.set_cons_succ]
      refine AnyE.take2 (i := 1) [23, 22, 9, 8, 3, 2] (oi := { dst := some 106, op := Go.Op.move (Go.Operand.tmp 17), type := 3, pos := "law.go:60", after := #[], guard := none }) (v := ?_) rfl (by kernel_rfl) (by kernel_rfl) (by kernel_rfl) (by kernel_rfl) (fun _ _ _ h => h) (Or.inl ⟨by rfl, ?_⟩) (by assumption) ?_
      rotate_left
      · (intro w0 hSw; (try dsimp only at hSw); go_split_ands; go_simp; with_reducible rfl)
      try simp only [Act.put, List.setIfInBounds_toArray, List.set_cons_zero, List.set_cons_succ]
      refine AnyE.take2 (i := 2) [23, 22, 9, 8, 3] (oi := { dst := some 107, op := Go.Op.indexAddr 63 (Go.Operand.tmp 105) (Go.Operand.tmp 106), type := 0, pos := "law.go:60", after := #[{ on := 0, ground := Go.Ground.data }, { on := 1, ground := Go.Ground.data }], guard := none }) (v := ?_) rfl (by kernel_rfl) (by kernel_rfl) (by kernel_rfl) (by kernel_rfl) (fun _ _ _ h => h) (Or.inl ⟨by rfl, ?_⟩) (by assumption) ?_
      rotate_left
      · (intro w0 hSw; (try dsimp only at hSw); go_split_ands; go_simp; with_reducible rfl)
      try simp only [Act.put, List.setIfInBounds_toArray, List.set_cons_zero, List.set_cons_succ]
      refine AnyE.take2 (i := 3) [23, 22, 9, 8] (oi := { dst := some 108, op := Go.Op.load 4 (Go.Operand.tmp 107), type := 4, pos := "law.go:60", after := #[{ on := 2, ground := Go.Ground.data }], guard := none }) (v := ?_) rfl (by kernel_rfl) (by kernel_rfl) (by kernel_rfl) (by kernel_rfl) (fun _ _ _ h => h) (Or.inl ⟨by rfl, ?_⟩) (by assumption) ?_
      rotate_left
      · (intro w0 hSw; (try dsimp only at hSw); go_split_ands; go_simp; with_reducible rfl)
      try simp only [Act.put, List.setIfInBounds_toArray, List.set_cons_zero, List.set_cons_succ]
      refine AnyE.take2 (i := 4) [23, 22, 9, 8, 7, 6] (oi := { dst := some 109, op := Go.Op.move (Go.Operand.tmp 16), type := 63, pos := "law.go:60", after := #[], guard := none }) (v := ?_) rfl (by kernel_rfl) (by kernel_rfl) (by kernel_rfl) (by kernel_rfl) (fun _ _ _ h => h) (Or.inl ⟨by rfl, ?_⟩) (by assumption) ?_
      rotate_left
      · (intro w0 hSw; (try dsimp only at hSw); go_split_ands; go_simp; with_reducible rfl)
      try simp only [Act.put, List.setIfInBounds_toArray, List.set_cons_zero, List.set_cons_succ]
      refine AnyE.take2 (i := 5) [23, 22, 9, 8, 7, 6] (oi := { dst := some 110, op := Go.Op.move (Go.Operand.tmp 17), type := 3, pos := "law.go:60", after := #[], guard := none }) (v := ?_) rfl (by kernel_rfl) (by kernel_rfl) (by kernel_rfl) (by kernel_rfl) (fun _ _ _ h => h) (Or.inl ⟨by rfl, ?_⟩) (by assumption) ?_
      rotate_left
      · (intro w0 hSw; (try dsimp only at hSw); go_split_ands; go_simp; with_reducible rfl)
      try simp only [Act.put, List.setIfInBounds_toArray, List.set_cons_zero, List.set_cons_succ]
      refine AnyE.take2 (i := 6) [23, 22, 9, 8, 7] (oi := { dst := some 111, op := Go.Op.indexAddr 63 (Go.Operand.tmp 109) (Go.Operand.tmp 110), type := 0, pos := "law.go:60", after := #[{ on := 4, ground := Go.Ground.data }, { on := 5, ground := Go.Ground.data }], guard := none }) (v := ?_) rfl (by kernel_rfl) (by kernel_rfl) (by kernel_rfl) (by kernel_rfl) (fun _ _ _ h => h) (Or.inl ⟨by rfl, ?_⟩) (by assumption) ?_
      rotate_left
      · (intro w0 hSw; (try dsimp only at hSw); go_split_ands; go_simp; with_reducible rfl)
      try simp only [Act.put, List.setIfInBounds_toArray, List.set_cons_zero, List.set_cons_succ]
      refine AnyE.take2 (i := 7) [23, 22, 9, 8] (oi := { dst := some 112, op := Go.Op.load 4 (Go.Operand.tmp 111), type := 4, pos := "law.go:60", after := #[{ on := 6, ground := Go.Ground.data }], guard := none }) (v := ?_) rfl (by kernel_rfl) (by kernel_rfl) (by kernel_rfl) (by kernel_rfl) (fun _ _ _ h => h) (Or.inl ⟨by rfl, ?_⟩) (by assumption) ?_
      rotate_left
      · (intro w0 hSw; (try dsimp only at hSw); go_split_ands; go_simp; with_reducible rfl)
      try simp only [Act.put, List.setIfInBounds_toArray, List.set_cons_zero, List.set_cons_succ]
      refine AnyE.take2 (i := 8) [23, 22, 9] (oi := { dst := some 113, op := Go.Op.binOp Go.BinOp.neq 4 (Go.Operand.tmp 108) (Go.Operand.tmp 112) 4, type := 4, pos := "law.go:60", after := #[{ on := 3, ground := Go.Ground.data }, { on := 7, ground := Go.Ground.data }], guard := none }) (v := ?_) rfl (by kernel_rfl) (by kernel_rfl) (by kernel_rfl) (by kernel_rfl) (fun _ _ _ h => h) (Or.inl ⟨by rfl, ?_⟩) (by assumption) ?_
      rotate_left
      · (intro w0 hSw; (try dsimp only at hSw); go_split_ands; go_simp; with_reducible rfl)
      try simp only [Act.put, List.setIfInBounds_toArray, List.set_cons_zero, List.set_cons_succ]
      refine AnyE.take2 (i := 9) [23, 22] (oi := { dst := some 114, op := Go.Op.move (Go.Operand.tmp 113), type := 4, pos := "law.go:60", after := #[{ on := 8, ground := Go.Ground.data }], guard := none }) (v := ?_) rfl (by kernel_rfl) (by kernel_rfl) (by kernel_rfl) (by kernel_rfl) (fun _ _ _ h => h) (Or.inl ⟨by rfl, ?_⟩) (by assumption) ?_
      rotate_left
      · (intro w0 hSw; (try dsimp only at hSw); go_split_ands; go_simp; with_reducible rfl)
      try simp only [Act.put, List.setIfInBounds_toArray, List.set_cons_zero, List.set_cons_succ]
      refine AnyE.take2 (i := 10) [23, 20, 14, 13, 12] (oi := { dst := some 115, op := Go.Op.move (Go.Operand.tmp 13), type := 62, pos := "law.go:60", after := #[{ on := 9, ground := Go.Ground.guard }], guard := some (9, false) }) (v := ?_) rfl (by kernel_rfl) (by kernel_rfl) (by kernel_rfl) (by kernel_rfl) (fun _ _ _ h => h) (Or.inl ⟨by rfl, ?_⟩) (by assumption) ?_
      rotate_left
      · (intro w0 hSw; (try dsimp only at hSw); go_split_ands; go_simp; with_reducible rfl)
      try simp only [Act.put, List.setIfInBounds_toArray, List.set_cons_zero, List.set_cons_succ]
      refine AnyE.take2 (i := 11) [23, 20, 14, 13, 12] (oi := { dst := some 116, op := Go.Op.move (Go.Operand.tmp 17), type := 3, pos := "law.go:60", after := #[{ on := 9, ground := Go.Ground.guard }], guard := some (9, false) }) (v := ?_) rfl (by kernel_rfl) (by kernel_rfl) (by kernel_rfl) (by kernel_rfl) (fun _ _ _ h => h) (Or.inl ⟨by rfl, ?_⟩) (by assumption) ?_
      rotate_left
      · (intro w0 hSw; (try dsimp only at hSw); go_split_ands; go_simp; with_reducible rfl)
      try simp only [Act.put, List.setIfInBounds_toArray, List.set_cons_zero, List.set_cons_succ]
      refine AnyE.take2 (i := 12) [23, 20, 14, 13] (oi := { dst := some 117, op := Go.Op.indexAddr 62 (Go.Operand.tmp 115) (Go.Operand.tmp 116), type := 0, pos := "law.go:60", after := #[{ on := 10, ground := Go.Ground.data }, { on := 11, ground := Go.Ground.data }, { on := 9, ground := Go.Ground.guard }], guard := some (9, false) }) (v := ?_) rfl (by kernel_rfl) (by kernel_rfl) (by kernel_rfl) (by kernel_rfl) (fun _ _ _ h => h) (Or.inl ⟨by rfl, ?_⟩) (by assumption) ?_
      rotate_left
      · (intro w0 hSw; (try dsimp only at hSw); go_split_ands; go_simp; with_reducible rfl)
      try simp only [Act.put, List.setIfInBounds_toArray, List.set_cons_zero, List.set_cons_succ]
      refine AnyE.take2 (i := 13) [23, 20, 14] (oi := { dst := some 118, op := Go.Op.fieldAddr 71 (Go.Operand.tmp 117) 0, type := 0, pos := "law.go:60", after := #[{ on := 12, ground := Go.Ground.data }, { on := 9, ground := Go.Ground.guard }], guard := some (9, false) }) (v := ?_) rfl (by kernel_rfl) (by kernel_rfl) (by kernel_rfl) (by kernel_rfl) (fun _ _ _ h => h) (Or.inl ⟨by rfl, ?_⟩) (by assumption) ?_
      rotate_left
      · (intro w0 hSw; (try dsimp only at hSw); go_split_ands; go_simp; with_reducible rfl)
      try simp only [Act.put, List.setIfInBounds_toArray, List.set_cons_zero, List.set_cons_succ]
      refine AnyE.take2 (i := 14) [23, 20] (oi := { dst := some 119, op := Go.Op.load 48 (Go.Operand.tmp 118), type := 48, pos := "law.go:60", after := #[{ on := 13, ground := Go.Ground.data }, { on := 9, ground := Go.Ground.guard }], guard := some (9, false) }) (v := ?_) rfl (by kernel_rfl) (by kernel_rfl) (by kernel_rfl) (by kernel_rfl) (fun _ _ _ h => h) (Or.inl ⟨by rfl, ?_⟩) (by assumption) ?_
      rotate_left
      · (intro w0 hSw; (try dsimp only at hSw); go_split_ands; go_simp; with_reducible rfl)
      try simp only [Act.put, List.setIfInBounds_toArray, List.set_cons_zero, List.set_cons_succ]
      refine AnyE.take2 (i := 15) [23, 20, 19, 18, 17] (oi := { dst := some 120, op := Go.Op.move (Go.Operand.tmp 15), type := 66, pos := "law.go:60", after := #[{ on := 9, ground := Go.Ground.guard }], guard := some (9, false) }) (v := ?_) rfl (by kernel_rfl) (by kernel_rfl) (by kernel_rfl) (by kernel_rfl) (fun _ _ _ h => h) (Or.inl ⟨by rfl, ?_⟩) (by assumption) ?_
      rotate_left
      · (intro w0 hSw; (try dsimp only at hSw); go_split_ands; go_simp; with_reducible rfl)
      try simp only [Act.put, List.setIfInBounds_toArray, List.set_cons_zero, List.set_cons_succ]
      refine AnyE.take2 (i := 16) [23, 20, 19, 18, 17] (oi := { dst := some 121, op := Go.Op.move (Go.Operand.tmp 17), type := 3, pos := "law.go:60", after := #[{ on := 9, ground := Go.Ground.guard }], guard := some (9, false) }) (v := ?_) rfl (by kernel_rfl) (by kernel_rfl) (by kernel_rfl) (by kernel_rfl) (fun _ _ _ h => h) (Or.inl ⟨by rfl, ?_⟩) (by assumption) ?_
      rotate_left
      · (intro w0 hSw; (try dsimp only at hSw); go_split_ands; go_simp; with_reducible rfl)
      try simp only [Act.put, List.setIfInBounds_toArray, List.set_cons_zero, List.set_cons_succ]
      refine AnyE.take2 (i := 17) [23, 20, 19, 18] (oi := { dst := some 122, op := Go.Op.indexAddr 66 (Go.Operand.tmp 120) (Go.Operand.tmp 121), type := 0, pos := "law.go:60", after := #[{ on := 15, ground := Go.Ground.data }, { on := 16, ground := Go.Ground.data }, { on := 9, ground := Go.Ground.guard }], guard := some (9, false) }) (v := ?_) rfl (by kernel_rfl) (by kernel_rfl) (by kernel_rfl) (by kernel_rfl) (fun _ _ _ h => h) (Or.inl ⟨by rfl, ?_⟩) (by assumption) ?_
      rotate_left
      · (intro w0 hSw; (try dsimp only at hSw); go_split_ands; go_simp; with_reducible rfl)
      try simp only [Act.put, List.setIfInBounds_toArray, List.set_cons_zero, List.set_cons_succ]
      refine AnyE.take2 (i := 18) [23, 20, 19] (oi := { dst := some 123, op := Go.Op.fieldAddr 72 (Go.Operand.tmp 122) 0, type := 0, pos := "law.go:60", after := #[{ on := 17, ground := Go.Ground.data }, { on := 9, ground := Go.Ground.guard }], guard := some (9, false) }) (v := ?_) rfl (by kernel_rfl) (by kernel_rfl) (by kernel_rfl) (by kernel_rfl) (fun _ _ _ h => h) (Or.inl ⟨by rfl, ?_⟩) (by assumption) ?_
      rotate_left
      · (intro w0 hSw; (try dsimp only at hSw); go_split_ands; go_simp; with_reducible rfl)
      try simp only [Act.put, List.setIfInBounds_toArray, List.set_cons_zero, List.set_cons_succ]
      refine AnyE.take2 (i := 19) [23, 20] (oi := { dst := some 124, op := Go.Op.load 48 (Go.Operand.tmp 123), type := 48, pos := "law.go:60", after := #[{ on := 18, ground := Go.Ground.data }, { on := 9, ground := Go.Ground.guard }], guard := some (9, false) }) (v := ?_) rfl (by kernel_rfl) (by kernel_rfl) (by kernel_rfl) (by kernel_rfl) (fun _ _ _ h => h) (Or.inl ⟨by rfl, ?_⟩) (by assumption) ?_
      rotate_left
      · (intro w0 hSw; (try dsimp only at hSw); go_split_ands; go_simp; with_reducible rfl)
      try simp only [Act.put, List.setIfInBounds_toArray, List.set_cons_zero, List.set_cons_succ]
      refine AnyE.ready (rs := [20]) (by kernel_rfl) (by simp) ?_
      refine AllE.cons (o := { dst := some 125, op := Go.Op.call { callee := Go.Callee.value (Go.Operand.func 30), args := #[Go.Operand.tmp 119, Go.Operand.tmp 124], argTypes := #[48, 48] }, type := 4, pos := "law.go:60", after := #[{ on := 14, ground := Go.Ground.data }, { on := 19, ground := Go.Ground.data }, { on := 9, ground := Go.Ground.chain }, { on := 9, ground := Go.Ground.guard }], guard := some (9, false) }) rfl (fun KK hKK => ?_) AllE.nil
      go_simp
      go_at_call 30
      refine (HInk.out _ HV.out).mono ?_
      rintro e u2 ⟨rfl, hb5⟩
      have HV2 := Lib.hid (HV.out.trans (hb5.mono HV.out.size))
      clear hb5
      refine hKK.out _ _ (HX.out _ HV2.out) (fun hHeld => ?_)
      clear hKK KK
      try simp only [Act.put, List.setIfInBounds_toArray, List.set_cons_zero, List.set_cons_succ]
      refine AnyE.take2 (i := 21) [23, 22] (oi := { dst := some 126, op := Go.Op.unOp Go.UnOp.not 4 (Go.Operand.tmp 125), type := 4, pos := "law.go:60", after := #[{ on := 20, ground := Go.Ground.data }, { on := 9, ground := Go.Ground.guard }], guard := some (9, false) }) (v := ?_) rfl (by kernel_rfl) (by kernel_rfl) (by kernel_rfl) (by kernel_rfl) (fun _ _ _ h => h) (Or.inl ⟨by rfl, ?_⟩) (by assumption) ?_
      rotate_left
      · (intro w0 hSw; (try dsimp only at hSw); go_split_ands; go_simp; with_reducible rfl)
      try simp only [Act.put, List.setIfInBounds_toArray, List.set_cons_zero, List.set_cons_succ]
      refine AnyE.take2 (i := 22) [23] (oi := { dst := some 127, op := Go.Op.pick (Go.Operand.tmp 114) (Go.Operand.const (Go.Value.bool true)) (Go.Operand.tmp 126), type := 4, pos := "law.go:60", after := #[{ on := 9, ground := Go.Ground.data }, { on := 21, ground := Go.Ground.data }], guard := none }) (v := ?_) rfl (by kernel_rfl) (by kernel_rfl) (by kernel_rfl) (by kernel_rfl) (fun _ _ _ h => h) (Or.inl ⟨by rfl, ?_⟩) (by assumption) ?_
      rotate_left
      · (intro w0 hSw; (try dsimp only at hSw); go_split_ands; go_simp; with_reducible rfl)
      try simp only [Act.put, List.setIfInBounds_toArray, List.set_cons_zero, List.set_cons_succ]
      refine AnyE.take2 (i := 23) [] (oi := { dst := some 128, op := Go.Op.move (Go.Operand.tmp 127), type := 4, pos := "law.go:60", after := #[{ on := 22, ground := Go.Ground.data }, { on := 20, ground := Go.Ground.chain }], guard := none }) (v := ?_) rfl (by kernel_rfl) (by kernel_rfl) (by kernel_rfl) (by kernel_rfl) (fun _ _ _ h => h) (Or.inl ⟨by rfl, ?_⟩) (by assumption) ?_
      rotate_left
      · (intro w0 hSw; (try dsimp only at hSw); go_split_ands; go_simp; with_reducible rfl)
      try simp only [Act.put, List.setIfInBounds_toArray, List.set_cons_zero, List.set_cons_succ]
      refine AnyE.take2 (i := 24) [34, 28, 27, 26] (oi := { dst := some 129, op := Go.Op.move (Go.Operand.tmp 13), type := 62, pos := "law.go:60", after := #[{ on := 23, ground := Go.Ground.guard }], guard := some (23, false) }) (v := ?_) rfl (by kernel_rfl) (by kernel_rfl) (by kernel_rfl) (by kernel_rfl) (fun _ _ _ h => h) (Or.inl ⟨by rfl, ?_⟩) (by assumption) ?_
      rotate_left
      · (intro w0 hSw; (try dsimp only at hSw); go_split_ands; go_simp; with_reducible rfl)
      try simp only [Act.put, List.setIfInBounds_toArray, List.set_cons_zero, List.set_cons_succ]
      refine AnyE.take2 (i := 25) [34, 28, 27, 26] (oi := { dst := some 130, op := Go.Op.move (Go.Operand.tmp 17), type := 3, pos := "law.go:60", after := #[{ on := 23, ground := Go.Ground.guard }], guard := some (23, false) }) (v := ?_) rfl (by kernel_rfl) (by kernel_rfl) (by kernel_rfl) (by kernel_rfl) (fun _ _ _ h => h) (Or.inl ⟨by rfl, ?_⟩) (by assumption) ?_
      rotate_left
      · (intro w0 hSw; (try dsimp only at hSw); go_split_ands; go_simp; with_reducible rfl)
      try simp only [Act.put, List.setIfInBounds_toArray, List.set_cons_zero, List.set_cons_succ]
      refine AnyE.take2 (i := 26) [34, 28, 27] (oi := { dst := some 131, op := Go.Op.indexAddr 62 (Go.Operand.tmp 129) (Go.Operand.tmp 130), type := 0, pos := "law.go:60", after := #[{ on := 24, ground := Go.Ground.data }, { on := 25, ground := Go.Ground.data }, { on := 23, ground := Go.Ground.guard }], guard := some (23, false) }) (v := ?_) rfl (by kernel_rfl) (by kernel_rfl) (by kernel_rfl) (by kernel_rfl) (fun _ _ _ h => h) (Or.inl ⟨by rfl, ?_⟩) (by assumption) ?_
      rotate_left
      · (intro w0 hSw; (try dsimp only at hSw); go_split_ands; go_simp; with_reducible rfl)
      try simp only [Act.put, List.setIfInBounds_toArray, List.set_cons_zero, List.set_cons_succ]
      refine AnyE.take2 (i := 27) [34, 28] (oi := { dst := some 132, op := Go.Op.fieldAddr 71 (Go.Operand.tmp 131) 1, type := 0, pos := "law.go:60", after := #[{ on := 26, ground := Go.Ground.data }, { on := 23, ground := Go.Ground.guard }], guard := some (23, false) }) (v := ?_) rfl (by kernel_rfl) (by kernel_rfl) (by kernel_rfl) (by kernel_rfl) (fun _ _ _ h => h) (Or.inl ⟨by rfl, ?_⟩) (by assumption) ?_
      rotate_left
      · (intro w0 hSw; (try dsimp only at hSw); go_split_ands; go_simp; with_reducible rfl)
      try simp only [Act.put, List.setIfInBounds_toArray, List.set_cons_zero, List.set_cons_succ]
      refine AnyE.take2 (i := 28) [34] (oi := { dst := some 133, op := Go.Op.load 3 (Go.Operand.tmp 132), type := 3, pos := "law.go:60", after := #[{ on := 27, ground := Go.Ground.data }, { on := 23, ground := Go.Ground.guard }], guard := some (23, false) }) (v := ?_) rfl (by kernel_rfl) (by kernel_rfl) (by kernel_rfl) (by kernel_rfl) (fun _ _ _ h => h) (Or.inl ⟨by rfl, ?_⟩) (by assumption) ?_
      rotate_left
      · (intro w0 hSw; (try dsimp only at hSw); go_split_ands; go_simp; with_reducible rfl)
      try simp only [Act.put, List.setIfInBounds_toArray, List.set_cons_zero, List.set_cons_succ]
      refine AnyE.take2 (i := 29) [34, 33, 32, 31] (oi := { dst := some 134, op := Go.Op.move (Go.Operand.tmp 15), type := 66, pos := "law.go:60", after := #[{ on := 23, ground := Go.Ground.guard }], guard := some (23, false) }) (v := ?_) rfl (by kernel_rfl) (by kernel_rfl) (by kernel_rfl) (by kernel_rfl) (fun _ _ _ h => h) (Or.inl ⟨by rfl, ?_⟩) (by assumption) ?_
      rotate_left
      · (intro w0 hSw; (try dsimp only at hSw); go_split_ands; go_simp; with_reducible rfl)
      try simp only [Act.put, List.setIfInBounds_toArray, List.set_cons_zero, List.set_cons_succ]
      refine AnyE.take2 (i := 30) [34, 33, 32, 31] (oi := { dst := some 135, op := Go.Op.move (Go.Operand.tmp 17), type := 3, pos := "law.go:60", after := #[{ on := 23, ground := Go.Ground.guard }], guard := some (23, false) }) (v := ?_) rfl (by kernel_rfl) (by kernel_rfl) (by kernel_rfl) (by kernel_rfl) (fun _ _ _ h => h) (Or.inl ⟨by rfl, ?_⟩) (by assumption) ?_
      rotate_left
      · (intro w0 hSw; (try dsimp only at hSw); go_split_ands; go_simp; with_reducible rfl)
      try simp only [Act.put, List.setIfInBounds_toArray, List.set_cons_zero, List.set_cons_succ]
      refine AnyE.take2 (i := 31) [34, 33, 32] (oi := { dst := some 136, op := Go.Op.indexAddr 66 (Go.Operand.tmp 134) (Go.Operand.tmp 135), type := 0, pos := "law.go:60", after := #[{ on := 29, ground := Go.Ground.data }, { on := 30, ground := Go.Ground.data }, { on := 23, ground := Go.Ground.guard }], guard := some (23, false) }) (v := ?_) rfl (by kernel_rfl) (by kernel_rfl) (by kernel_rfl) (by kernel_rfl) (fun _ _ _ h => h) (Or.inl ⟨by rfl, ?_⟩) (by assumption) ?_
      rotate_left
      · (intro w0 hSw; (try dsimp only at hSw); go_split_ands; go_simp; with_reducible rfl)
      try simp only [Act.put, List.setIfInBounds_toArray, List.set_cons_zero, List.set_cons_succ]
      refine AnyE.take2 (i := 32) [34, 33] (oi := { dst := some 137, op := Go.Op.fieldAddr 72 (Go.Operand.tmp 136) 1, type := 0, pos := "law.go:60", after := #[{ on := 31, ground := Go.Ground.data }, { on := 23, ground := Go.Ground.guard }], guard := some (23, false) }) (v := ?_) rfl (by kernel_rfl) (by kernel_rfl) (by kernel_rfl) (by kernel_rfl) (fun _ _ _ h => h) (Or.inl ⟨by rfl, ?_⟩) (by assumption) ?_
      rotate_left
      · (intro w0 hSw; (try dsimp only at hSw); go_split_ands; go_simp; with_reducible rfl)
      try simp only [Act.put, List.setIfInBounds_toArray, List.set_cons_zero, List.set_cons_succ]
      refine AnyE.take2 (i := 33) [34] (oi := { dst := some 138, op := Go.Op.load 3 (Go.Operand.tmp 137), type := 3, pos := "law.go:60", after := #[{ on := 32, ground := Go.Ground.data }, { on := 23, ground := Go.Ground.guard }], guard := some (23, false) }) (v := ?_) rfl (by kernel_rfl) (by kernel_rfl) (by kernel_rfl) (by kernel_rfl) (fun _ _ _ h => h) (Or.inl ⟨by rfl, ?_⟩) (by assumption) ?_
      rotate_left
      · (intro w0 hSw; (try dsimp only at hSw); go_split_ands; go_simp; with_reducible rfl)
      try simp only [Act.put, List.setIfInBounds_toArray, List.set_cons_zero, List.set_cons_succ]
      refine AnyE.take2 (i := 34) [] (oi := { dst := some 139, op := Go.Op.binOp Go.BinOp.neq 3 (Go.Operand.tmp 133) (Go.Operand.tmp 138) 3, type := 4, pos := "law.go:60", after := #[{ on := 28, ground := Go.Ground.data }, { on := 33, ground := Go.Ground.data }, { on := 23, ground := Go.Ground.guard }], guard := some (23, false) }) (v := ?_) rfl (by kernel_rfl) (by kernel_rfl) (by kernel_rfl) (by kernel_rfl) (fun _ _ _ h => h) (Or.inl ⟨by rfl, ?_⟩) (by assumption) ?_
      rotate_left
      · (intro w0 hSw; (try dsimp only at hSw); go_split_ands; go_simp; with_reducible rfl)
      try simp only [Act.put, List.setIfInBounds_toArray, List.set_cons_zero, List.set_cons_succ]
      refine AnyE.ready (rs := [35]) (by kernel_rfl) (by simp) ?_
      refine AllE.last (o := { dst := some 140, op := Go.Op.pick (Go.Operand.tmp 128) (Go.Operand.const (Go.Value.bool true)) (Go.Operand.tmp 139), type := 4, pos := "law.go:60", after := #[{ on := 23, ground := Go.Ground.data }, { on := 34, ground := Go.Ground.data }], guard := none }) rfl (by kernel_rfl) (fun KK hKK => ?_)
      go_simp
      refine hKK.out _ _ ?_
      clear hKK KK
      try simp only [Act.put, List.setIfInBounds_toArray, List.set_cons_zero, List.set_cons_succ]
      go_wp2
      exact ⟨⟨k + 1, by omega, by go_num, HV2⟩, by simp [intOf]; omega⟩
    · obtain rfl : k = n := by omega
      go_wp2
      go_ret
      exact ⟨rfl, HB8.out.trans (HW.out.mono HB8.out.size)⟩
end Go.Proofs.Ytpiafgmncfibmaa.Vf
