import Derived.Laws.BitsLemmas
import Derived.IntWalk
import Derived.Laws.BitsAllLaws
import Derived.Deep.DrawnRows
import Derived.Test.YtpiafgmncfibmaaXm
import Derived.Test.YtpiafgmncfibmaaWc
import Derived.Test.YtpiafgmncfibmaaRows
import Derived.WalkKit
import Derived.ProofKit
import Derived.OpenShut
import Derived.Deep.QuietTactic
import Derived.BigQuiet
import Derived.Outline
import Derived.WalkSmall
import Derived.WalkLawsBesides
import Derived.WalkSpells
import Derived.BigGuardPart
import Derived.RegionTactic
import Derived.Deep.RegionHeld3
import Derived.Lib.Hide
import Derived.Deep.MidRow
import Derived.Below
import Derived.Deep.RegionWith
import Derived.Deep.OwnRows
import Derived.Deep.AppendLies
import Derived.Deep.RegionLaw
import Derived.Deep.CutBlock
import Derived.Deep.DeepCutAuto
namespace Go.Proofs.Ytpiafgmncfibmaa.Vf
open Go.ChangeShapes Go.WideShapes Go.ChangeAt Go.RowKit
set_option linter.unusedVariables false
set_option maxRecDepth 100000 in
theorem ints_x (a b : Option Addr) (ca cb : Nat) (l : List Int) (w : World) (hI : Ints w a l) (hJ : Ints w b l) (hl : l.length ≤ 100000) : Calls Try.prog 30 #[.slice a l.length ca, .slice b l.length cb] w fun e w' => e = .returned (.bool true) ∧ Below w.heap.size w w' := by
  have HI := Lib.hid hI
  have HJ := Lib.hid hJ
  generalize hn : l.length = n at hl ⊢
  have HN := Lib.hid hn
  clear hI hJ hn
  go_enter Try.func30, Try.ntmps30
  go_wp2_with fail
  go_loopw [5] (fun i wr => ∃ k : Nat, k ≤ n ∧ i = .int .i64 k ∧ Hid (Below w.heap.size w wr)) (fun i _ => n - (intOf i).toNat)
  case atStart => exact ⟨0, Nat.zero_le _, rfl, Lib.hid (Below.refl _ _)⟩
  case round =>
    obtain ⟨k, hk, rfl, HW⟩ := hrel
    by_cases hkn : k < n
    · have hki : (k : Int) < n := by omega
      obtain ⟨b1, o1, rfl, hb1, hc1⟩ := (HI.out.kept (Kept.of HW.out)).at (by rw [HN.out]; omega)
      obtain ⟨b2, o2, rfl, hb2, hc2⟩ := (HJ.out.kept (Kept.of HW.out)).at (by rw [HN.out]; omega)
      have y1 : wr.cell? ⟨b1, o1 + k, none⟩ = some (.int .i64 (l.getD k 0)) := hc1 k (by rw [HN.out]; exact hkn)
      have y2 : wr.cell? ⟨b2, o2 + k, none⟩ = some (.int .i64 (l.getD k 0)) := hc2 k (by rw [HN.out]; exact hkn)
      generalize l.getD k 0 = z at y1 y2
      have dz : (z != z) = false := by simp
      clear hc1 hc2
      go_wp2_with fail
      go_quiet (fail)
      go_wp2
      exact ⟨⟨k + 1, by omega, by go_num, Lib.hid (HW.out.trans (below_drewN (Below.refl _ _) _))⟩, by simp [intOf]; omega⟩
    · go_wp2
      go_ret
      exact ⟨rfl, HW.out⟩

def ShsX (P : Pg) (A : Ad) (m : Int) (w : World) (e : Ending) (w' : World) : Prop :=
  Below w.heap.size w w' ∧ if (methR P m).2 = 0 then ∃ (K : Fk) (X : Fx), K.P = P ∧ K.A = A ∧ K.m = m.toNat ∧ FkOk K ∧ StC K w' (flowF P m.toNat) X ∧ e = .returned (.tuple #[.slice (some ⟨K.rs, 0, none⟩) K.n K.n, .slice (some ⟨K.rh, 0, none⟩) K.n K.n, .int .i64 0])
  else e = .returned (.tuple #[.slice none 0 0, .slice none 0 0, .int .i64 (methR P m).2])
set_option maxRecDepth 100000 in
set_option maxHeartbeats 8000000 in
theorem Shapes_x (P : Pg) (A : Ad) (m : Int) (w : World) (h : PgAt w P A) (hf : Fits P A) (hc : Caps P A) : Calls Try.prog 29 #[.agg (P.cells A), .int .i64 m] w (ShsX P A m w) := by
  have HB0 : Hid (Bx (w.alloc (.cells #[.slice A.pa P.np A.pc, .slice A.ca P.nc A.cc, .slice A.ma P.nm A.mc] 26)) w.heap.size #[.slice A.pa P.np A.pc, .slice A.ca P.nc A.cc, .slice A.ma P.nm A.mc] 26 ∧ Below w.heap.size w (w.alloc (.cells #[.slice A.pa P.np A.pc, .slice A.ca P.nc A.cc, .slice A.ma P.nm A.mc] 26))) := Lib.hid ⟨Bx.new _ _ _, (Below.refl _ _).alloc (Nat.le_refl _) _⟩
  have HS : Hid (∀ V, Below w.heap.size w V → Calls Try.prog 61 #[.agg (P.cells A), .int .i64 m] V (RunX P A m V)) := Lib.hid fun V hV => run_c P A m V (h.kept (Kept.of hV)) hf hc
  clear h hf hc
  show Calls Try.prog 29 #[.agg #[.slice A.pa P.np A.pc, .slice A.ca P.nc A.cc, .slice A.ma P.nm A.mc], .int .i64 m] w _
  go_enter Try.func29, Try.ntmps29
  go_upto_region 1 with fail
  obtain ⟨W0, hW0⟩ : ∃ q, q = w.alloc (.cells #[.slice A.pa P.np A.pc, .slice A.ca P.nc A.cc, .slice A.ma P.nm A.mc] 26) := ⟨_, rfl⟩
  rw [← hW0] at HB0 ⊢
  clear hW0
  have x0 : W0.cell? ⟨w.heap.size, 0, none⟩ = some (.slice A.pa P.np A.pc) := HB0.out.1.cell 0
  have x1 : W0.cell? ⟨w.heap.size, 1, none⟩ = some (.slice A.ca P.nc A.cc) := HB0.out.1.cell 1
  have x2 : W0.cell? ⟨w.heap.size, 2, none⟩ = some (.slice A.ma P.nm A.mc) := HB0.out.1.cell 2
  go_wp2_with fail
  clear x0 x1 x2
  refine (HS.out _ HB0.out.2).mono ?_
  rintro e W1 ⟨p, rfl, hb1, hok⟩
  have HB1 := Lib.hid (HB0.out.2.trans (hb1.mono HB0.out.2.size))
  have HOk := Lib.hid hok
  clear hb1 hok HS
  obtain ⟨q2, hq2⟩ : ∃ q, (methR P m).2 = q := ⟨_, rfl⟩
  have HQ := Lib.hid hq2
  rw [hq2]
  clear hq2
  generalize (methR P m).1 = q1
  by_cases h0 : q2 = 0
  · subst h0
    obtain ⟨K, X, e1, e2, e3, e4, hK, rfl, hfl⟩ := HOk.out HQ.out
    have HFin : Hid (∀ V, Below W1.heap.size W1 V → ShsX P A m w (.returned (.tuple #[.slice (some ⟨K.rs, 0, none⟩) K.n K.n, .slice (some ⟨K.rh, 0, none⟩) K.n K.n, .int .i64 0])) V) := Lib.hid fun V hV => by
      refine ⟨HB1.out.trans (hV.mono HB1.out.size), ?_⟩
      rw [if_pos HQ.out]
      exact ⟨K, X, e1, e2, e3, hK, hfl.below hV, rfl⟩
    have f0 : W1.cell? ⟨K.f, 0, none⟩ = some (.slice (some ⟨K.rs, 0, none⟩) K.n K.n) := hfl.f.cell 0
    have f1 : W1.cell? ⟨K.f, 1, none⟩ = some (.slice (some ⟨K.rh, 0, none⟩) K.n K.n) := hfl.f.cell 1
    clear e1 e2 e3 e4 hK hfl HOk HQ HB0 HB1
    go_wp2_with fail
    go_quiet (fail)
    go_wp2
    go_ret3
    exact HFin.out _ (below_drewN (Below.refl _ _) _)
  · have d0 : (q2 != 0) = true := by simpa using h0
    have HN := Lib.hid h0
    clear h0
    go_wp2
    go_ret3
    refine ⟨HB1.out, ?_⟩
    rw [HQ.out, if_neg HN.out]
    rfl
set_option maxRecDepth 100000 in
set_option maxHeartbeats 8000000 in
theorem Method_x (P : Pg) (A : Ad) (m : Int) (w : World) (h : PgAt w P A) (hf : Fits P A) (hc : Caps P A) : Calls Try.prog 25 #[.agg (P.cells A), .int .i64 m] w (MetP P m w) := by
  have HB0 : Hid (Bx (w.alloc (.cells #[.slice A.pa P.np A.pc, .slice A.ca P.nc A.cc, .slice A.ma P.nm A.mc] 26)) w.heap.size #[.slice A.pa P.np A.pc, .slice A.ca P.nc A.cc, .slice A.ma P.nm A.mc] 26 ∧ Below w.heap.size w (w.alloc (.cells #[.slice A.pa P.np A.pc, .slice A.ca P.nc A.cc, .slice A.ma P.nm A.mc] 26))) := Lib.hid ⟨Bx.new _ _ _, (Below.refl _ _).alloc (Nat.le_refl _) _⟩
  have HS : Hid (∀ V, Below w.heap.size w V → Calls Try.prog 61 #[.agg (P.cells A), .int .i64 m] V (RunX P A m V)) := Lib.hid fun V hV => run_c P A m V (h.kept (Kept.of hV)) hf hc
  clear h hf hc
  show Calls Try.prog 25 #[.agg #[.slice A.pa P.np A.pc, .slice A.ca P.nc A.cc, .slice A.ma P.nm A.mc], .int .i64 m] w _
  go_enter Try.func25, Try.ntmps25
  go_upto_region 1 with fail
  obtain ⟨W0, hW0⟩ : ∃ q, q = w.alloc (.cells #[.slice A.pa P.np A.pc, .slice A.ca P.nc A.cc, .slice A.ma P.nm A.mc] 26) := ⟨_, rfl⟩
  rw [← hW0] at HB0 ⊢
  clear hW0
  have x0 : W0.cell? ⟨w.heap.size, 0, none⟩ = some (.slice A.pa P.np A.pc) := HB0.out.1.cell 0
  have x1 : W0.cell? ⟨w.heap.size, 1, none⟩ = some (.slice A.ca P.nc A.cc) := HB0.out.1.cell 1
  have x2 : W0.cell? ⟨w.heap.size, 2, none⟩ = some (.slice A.ma P.nm A.mc) := HB0.out.1.cell 2
  go_wp2_with fail
  clear x0 x1 x2
  refine (HS.out _ HB0.out.2).mono ?_
  rintro e W1 ⟨p, rfl, hb1, -⟩
  have HR : Hid (MetP P m w (.returned (.tuple #[.int .i64 ((methR P m).1 : Nat), .int .i64 (methR P m).2])) W1) := Lib.hid ⟨rfl, HB0.out.2.trans (hb1.mono HB0.out.2.size)⟩
  clear hb1 HB0 HS
  generalize (methR P m).1 = q1 at HR ⊢
  generalize (methR P m).2 = q2 at HR ⊢
  go_wp2
  go_ret2
  exact HR.out
set_option maxRecDepth 100000 in
set_option maxHeartbeats 8000000 in
theorem Program_x (P : Pg) (A : Ad) (w : World) (h : PgAt w P A) (hf : Fits P A) (hc : Caps P A) : Calls Try.prog 27 #[.agg (P.cells A)] w (PrgP P w) := by
  have HB0 : Hid (Bx (w.alloc (.cells #[.slice A.pa P.np A.pc, .slice A.ca P.nc A.cc, .slice A.ma P.nm A.mc] 26)) w.heap.size #[.slice A.pa P.np A.pc, .slice A.ca P.nc A.cc, .slice A.ma P.nm A.mc] 26 ∧ Below w.heap.size w (w.alloc (.cells #[.slice A.pa P.np A.pc, .slice A.ca P.nc A.cc, .slice A.ma P.nm A.mc] 26))) := Lib.hid ⟨Bx.new _ _ _, (Below.refl _ _).alloc (Nat.le_refl _) _⟩
  have HC : Hid (∀ V, Below w.heap.size w V → Calls Try.prog 17 #[.agg #[.slice A.pa P.np A.pc, .slice A.ca P.nc A.cc, .slice A.ma P.nm A.mc]] V fun e w' => e = .returned (.int .i64 P.chk) ∧ Below V.heap.size V w') := Lib.hid fun V hV => refcheck_c P A V (h.kept (Kept.of hV)) hf
  have HS : Hid (P.chk = 0 → ∀ i : Nat, i < P.nm → ∀ V, Below w.heap.size w V → Calls Try.prog 61 #[.agg #[.slice A.pa P.np A.pc, .slice A.ca P.nc A.cc, .slice A.ma P.nm A.mc], .int .i64 i] V (RunX P A i V)) := Lib.hid fun hk i hi V hV => run_c P A i V (h.kept (Kept.of hV)) hf hc
  have HNm := Lib.hid hf.nm
  clear h hf hc
  show Calls Try.prog 27 #[.agg #[.slice A.pa P.np A.pc, .slice A.ca P.nc A.cc, .slice A.ma P.nm A.mc]] w _
  go_enter Try.func27, Try.ntmps27
  go_upto_region 1 with fail
  obtain ⟨W0, hW0⟩ : ∃ q, q = w.alloc (.cells #[.slice A.pa P.np A.pc, .slice A.ca P.nc A.cc, .slice A.ma P.nm A.mc] 26) := ⟨_, rfl⟩
  rw [← hW0] at HB0 ⊢
  clear hW0
  have x0 : W0.cell? ⟨w.heap.size, 0, none⟩ = some (.slice A.pa P.np A.pc) := HB0.out.1.cell 0
  have x1 : W0.cell? ⟨w.heap.size, 1, none⟩ = some (.slice A.ca P.nc A.cc) := HB0.out.1.cell 1
  have x2 : W0.cell? ⟨w.heap.size, 2, none⟩ = some (.slice A.ma P.nm A.mc) := HB0.out.1.cell 2
  go_wp2_with fail
  refine (HC.out _ HB0.out.2).mono ?_
  rintro e W1 ⟨rfl, hb1⟩
  have HB1 : Hid (Bx W1 w.heap.size #[.slice A.pa P.np A.pc, .slice A.ca P.nc A.cc, .slice A.ma P.nm A.mc] 26 ∧ Below w.heap.size w W1) := Lib.hid ⟨HB0.out.1.below hb1, HB0.out.2.trans (hb1.mono HB0.out.2.size)⟩
  clear hb1 HC x0 x1 x2 HB0
  have x0 : W1.cell? ⟨w.heap.size, 0, none⟩ = some (.slice A.pa P.np A.pc) := HB1.out.1.cell 0
  have x1 : W1.cell? ⟨w.heap.size, 1, none⟩ = some (.slice A.ca P.nc A.cc) := HB1.out.1.cell 1
  have x2 : W1.cell? ⟨w.heap.size, 2, none⟩ = some (.slice A.ma P.nm A.mc) := HB1.out.1.cell 2
  obtain ⟨ck, hck⟩ : ∃ q, P.chk = q := ⟨_, rfl⟩
  have HCk := Lib.hid hck
  rw [hck]
  clear hck
  by_cases h0 : ck = 0
  case neg =>
    have d0 : (ck != 0) = true := by simpa using h0
    have HN := Lib.hid h0
    clear h0
    go_wp2
    go_ret3
    exact prgP_of (by unfold progR; rw [if_pos (by rw [HCk.out]; exact HN.out), HCk.out]) HB1.out.2
  subst h0
  go_wp2_with fail
  clear x0 x1 x2
  go_loopw [6] (fun i wr => ∃ k : Nat, k ≤ P.nm ∧ i = .int .i64 k ∧ Hid (Bx wr w.heap.size #[.slice A.pa P.np A.pc, .slice A.ca P.nc A.cc, .slice A.ma P.nm A.mc] 26 ∧ Below w.heap.size w wr) ∧ Hid (∀ j, j < k → (flowR P j).2 = 0)) (fun i _ => P.nm - (intOf i).toNat)
  case atStart => exact ⟨0, Nat.zero_le _, rfl, HB1, Lib.hid fun j hj => by omega⟩
  case round =>
    obtain ⟨k, hk, rfl, HW, HZ⟩ := hrel
    by_cases hkn : k < P.nm
    · have hki : (k : Int) < P.nm := by omega
      have HF := Lib.hid (HS.out HCk.out k hkn wr HW.out.2)
      have hbig : P.nm ≤ Big := HNm.out
      have x0 : wr.cell? ⟨w.heap.size, 0, none⟩ = some (.slice A.pa P.np A.pc) := HW.out.1.cell 0
      have x1 : wr.cell? ⟨w.heap.size, 1, none⟩ = some (.slice A.ca P.nc A.cc) := HW.out.1.cell 1
      have x2 : wr.cell? ⟨w.heap.size, 2, none⟩ = some (.slice A.ma P.nm A.mc) := HW.out.1.cell 2
      go_wp2_with fail
      clear x0 x1 x2
      refine HF.out.mono ?_
      rintro e W3 ⟨p, rfl, hb3, -⟩
      have HW3 : Hid (Bx W3 w.heap.size #[.slice A.pa P.np A.pc, .slice A.ca P.nc A.cc, .slice A.ma P.nm A.mc] 26 ∧ Below w.heap.size w W3) := Lib.hid ⟨HW.out.1.below hb3, HW.out.2.trans (hb3.mono HW.out.2.size)⟩
      clear hb3 HF
      obtain ⟨⟨q1, q2⟩, hq⟩ : ∃ q, flowR P k = q := ⟨_, rfl⟩
      have HQ := Lib.hid hq
      rw [methR_m HCk.out hkn hq]
      clear hq
      by_cases h0 : q2 = 0
      · have d0 : (q2 != 0) = false := by simpa using h0
        have HN := Lib.hid h0
        clear h0
        have hbig2 : P.nm < 9223372036854775808 := by unfold Big at hbig; omega
        go_wp2
        exact ⟨⟨k + 1, by omega, by go_num, HW3, Lib.hid fun j hj => by
          by_cases hjk : j = k
          · subst hjk; rw [HQ.out]; exact HN.out
          · exact HZ.out j (by omega)⟩, by simp [intOf]; omega⟩
      · have d0 : (q2 != 0) = true := by simpa using h0
        have HN := Lib.hid h0
        have hn0 : (if q2 = 0 then 0 else q1) = q1 := if_neg h0
        clear h0
        rw [hn0]
        go_wp2
        go_ret3
        exact prgP_of (progR_bad HCk.out hkn HZ.out HQ.out HN.out) HW3.out.2
    · have hkq : k = P.nm := by omega
      subst hkq
      have x0 : wr.cell? ⟨w.heap.size, 0, none⟩ = some (.slice A.pa P.np A.pc) := HW.out.1.cell 0
      have x1 : wr.cell? ⟨w.heap.size, 1, none⟩ = some (.slice A.ca P.nc A.cc) := HW.out.1.cell 1
      have x2 : wr.cell? ⟨w.heap.size, 2, none⟩ = some (.slice A.ma P.nm A.mc) := HW.out.1.cell 2
      go_wp2
      go_ret3
      exact prgP_of (progR_ok HCk.out HZ.out) HW.out.2
end Go.Proofs.Ytpiafgmncfibmaa.Vf
