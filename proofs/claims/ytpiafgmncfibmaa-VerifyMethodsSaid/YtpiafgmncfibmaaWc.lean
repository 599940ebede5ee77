import Derived.Laws.BitsLemmas
import Derived.IntWalk
import Derived.Laws.BitsAllLaws
import Derived.Deep.DrawnRows
import Derived.Test.YtpiafgmncfibmaaWb
import Derived.Test.YtpiafgmncfibmaaRows
import Derived.WalkKit
import Derived.ProofKit
import Derived.OpenShut
import Derived.Deep.QuietTactic
import Derived.BigQuiet
import Derived.Outline
import Derived.WalkSmall
import Derived.WalkLawsBesides
import Derived.WalkSpells
import Derived.BigGuardPart
import Derived.RegionTactic
import Derived.Deep.RegionHeld3
import Derived.Lib.Hide
import Derived.Deep.MidRow
import Derived.Below
import Derived.Deep.RegionWith
import Derived.Deep.OwnRows
import Derived.Deep.AppendLies
import Derived.Deep.RegionLaw
import Derived.Deep.CutBlock
import Derived.Deep.DeepCutAuto
namespace Go.Proofs.Ytpiafgmncfibmaa.Vf
open Go.ChangeShapes Go.WideShapes Go.ChangeAt Go.RowKit
set_option linter.unusedVariables false

/-- What Shapes gives. -/
def ShsP (P : Pg) (A : Ad) (m : Int) (w : World) (e : Ending) (w' : World) : Prop :=
  Below w.heap.size w w' ∧ if (methR P m).2 = 0 then P.chk = 0 ∧ 0 ≤ m ∧ m < P.nm ∧ (flowR P m.toNat).2 = 0 ∧ ∃ (K : Fk) (X : Fx) (lo : Nat), K.P = P ∧ K.A = A ∧ K.m = m.toNat ∧ FkOk K ∧ Below w.heap.size w K.w0 ∧ FlC K w' (inL (begs (P.cn m.toNat) (P.cd m.toNat) (P.cn m.toNat) 0)) (flowF P m.toNat) X lo ∧ e = .returned (.tuple #[.slice (some ⟨K.rs, 0, none⟩) K.n K.n, .slice (some ⟨K.rh, 0, none⟩) K.n K.n, .int .i64 0])
  else e = .returned (.tuple #[.slice none 0 0, .slice none 0 0, .int .i64 (methR P m).2])
set_option maxRecDepth 100000 in
set_option maxHeartbeats 8000000 in
theorem Shapes_c (P : Pg) (A : Ad) (m : Int) (w : World) (h : PgAt w P A) (hf : Fits P A) (hc : Caps P A) : Calls Try.prog 28 #[.agg (P.cells A), .int .i64 m] w (ShsP P A m w) := by
  have HB0 : Hid (Bx (w.alloc (.cells #[.slice A.pa P.np A.pc, .slice A.ca P.nc A.cc, .slice A.ma P.nm A.mc] 26)) w.heap.size #[.slice A.pa P.np A.pc, .slice A.ca P.nc A.cc, .slice A.ma P.nm A.mc] 26 ∧ Below w.heap.size w (w.alloc (.cells #[.slice A.pa P.np A.pc, .slice A.ca P.nc A.cc, .slice A.ma P.nm A.mc] 26))) := Lib.hid ⟨Bx.new _ _ _, (Below.refl _ _).alloc (Nat.le_refl _) _⟩
  have HS : Hid (∀ V, Below w.heap.size w V → Calls Try.prog 60 #[.agg (P.cells A), .int .i64 m] V (ShpP P A m V)) := Lib.hid fun V hV => shapes_c P A m V (h.kept (Kept.of hV)) hf hc
  clear h hf hc
  show Calls Try.prog 28 #[.agg #[.slice A.pa P.np A.pc, .slice A.ca P.nc A.cc, .slice A.ma P.nm A.mc], .int .i64 m] w _
  go_enter Try.func28, Try.ntmps28
  go_upto_region 1 with fail
  obtain ⟨W0, hW0⟩ : ∃ q, q = w.alloc (.cells #[.slice A.pa P.np A.pc, .slice A.ca P.nc A.cc, .slice A.ma P.nm A.mc] 26) := ⟨_, rfl⟩
  rw [← hW0] at HB0 ⊢
  clear hW0
  have x0 : W0.cell? ⟨w.heap.size, 0, none⟩ = some (.slice A.pa P.np A.pc) := HB0.out.1.cell 0
  have x1 : W0.cell? ⟨w.heap.size, 1, none⟩ = some (.slice A.ca P.nc A.cc) := HB0.out.1.cell 1
  have x2 : W0.cell? ⟨w.heap.size, 2, none⟩ = some (.slice A.ma P.nm A.mc) := HB0.out.1.cell 2
  go_wp2_with fail
  clear x0 x1 x2
  refine (HS.out _ HB0.out.2).mono ?_
  rintro e W1 ⟨p, rfl, hb1, hok⟩
  have HB1 := Lib.hid (HB0.out.2.trans (hb1.mono HB0.out.2.size))
  have HOk := Lib.hid hok
  clear hb1 hok HS
  obtain ⟨q2, hq2⟩ : ∃ q, (methR P m).2 = q := ⟨_, rfl⟩
  have HQ := Lib.hid hq2
  rw [hq2]
  clear hq2
  generalize (methR P m).1 = q1
  by_cases h0 : q2 = 0
  · subst h0
    obtain ⟨hk, m0, m1, hr, w1, hw1, K, X, lo, e1, e2, e3, e4, hK, rfl, hfl⟩ := HOk.out HQ.out
    have HFin : Hid (∀ V, Below W1.heap.size W1 V → ShsP P A m w (.returned (.tuple #[.slice (some ⟨K.rs, 0, none⟩) K.n K.n, .slice (some ⟨K.rh, 0, none⟩) K.n K.n, .int .i64 0])) V) := Lib.hid fun V hV => by
      refine ⟨HB1.out.trans (hV.mono HB1.out.size), ?_⟩
      rw [if_pos HQ.out]
      exact ⟨hk, m0, m1, hr, K, X, lo, e1, e2, e3, hK, e4 ▸ HB0.out.2.trans (hw1.mono HB0.out.2.size), hfl.below hV, rfl⟩
    have f6 : W1.cell? ⟨K.f, 6, none⟩ = some (.slice (some ⟨K.rs, 0, none⟩) K.n K.n) := hfl.f.cell 6
    have f7 : W1.cell? ⟨K.f, 7, none⟩ = some (.slice (some ⟨K.rh, 0, none⟩) K.n K.n) := hfl.f.cell 7
    clear hk m0 m1 hr hw1 e1 e2 e3 e4 hK hfl HOk HQ HB0 HB1
    go_wp2_with fail
    go_quiet (fail)
    go_wp2
    go_ret3
    exact HFin.out _ (below_drewN (Below.refl _ _) _)
  · have d0 : (q2 != 0) = true := by simpa using h0
    have HN := Lib.hid h0
    clear h0
    go_wp2
    go_ret3
    refine ⟨HB1.out, ?_⟩
    rw [HQ.out, if_neg HN.out]
    rfl
/-- What Program tells: the method, the place, the error. -/
def progL (P : Pg) : Nat → Nat → Nat × Nat × Int
  | 0, _ => (0, 0, 0)
  | f + 1, i => if (flowR P i).2 ≠ 0 then (i, (flowR P i).1, (flowR P i).2) else progL P f (i + 1)
def progR (P : Pg) : Nat × Nat × Int := if P.chk ≠ 0 then (0, 0, P.chk) else progL P P.nm 0
def PrgP (P : Pg) (w : World) (e : Ending) (w' : World) : Prop := e = .returned (.tuple #[.int .i64 ((progR P).1 : Nat), .int .i64 ((progR P).2.1 : Nat), .int .i64 (progR P).2.2]) ∧ Below w.heap.size w w'
theorem prgP_of {P : Pg} {w w' : World} {a b : Nat} {c : Int} (h : progR P = (a, b, c)) (hb : Below w.heap.size w w') : PrgP P w (.returned (.tuple #[.int .i64 (a : Nat), .int .i64 (b : Nat), .int .i64 c])) w' := ⟨by rw [h], hb⟩
theorem progL_at (P : Pg) : ∀ (i : Nat), i ≤ P.nm → (∀ j, j < i → (flowR P j).2 = 0) → progL P P.nm 0 = progL P (P.nm - i) i
  | 0, _, _ => rfl
  | i + 1, h, hz => by
    rw [progL_at P i (by omega) fun j hj => hz j (by omega)]
    obtain ⟨f, hf⟩ : ∃ f, P.nm - i = f + 1 := ⟨P.nm - i - 1, by omega⟩
    rw [hf, show P.nm - (i + 1) = f by omega]
    exact if_neg (fun q => q (hz i (by omega)))
theorem progR_bad {P : Pg} {i p : Nat} {e : Int} (hk : P.chk = 0) (h : i < P.nm) (hz : ∀ j, j < i → (flowR P j).2 = 0) (hr : flowR P i = (p, e)) (he : e ≠ 0) : progR P = (i, p, e) := by
  unfold progR
  rw [if_neg (fun q => q hk), progL_at P i (by omega) hz]
  obtain ⟨f, hf⟩ : ∃ f, P.nm - i = f + 1 := ⟨P.nm - i - 1, by omega⟩
  rw [hf]
  unfold progL
  rw [hr, if_pos he]
theorem progR_ok {P : Pg} (hk : P.chk = 0) (hz : ∀ j, j < P.nm → (flowR P j).2 = 0) : progR P = (0, 0, 0) := by
  unfold progR
  rw [if_neg (fun q => q hk), progL_at P P.nm (Nat.le_refl _) hz, Nat.sub_self]
  rfl
set_option maxRecDepth 100000 in
set_option maxHeartbeats 8000000 in
theorem Program_c (P : Pg) (A : Ad) (w : World) (h : PgAt w P A) (hf : Fits P A) (hc : Caps P A) : Calls Try.prog 26 #[.agg (P.cells A)] w (PrgP P w) := by
  have HB0 : Hid (Bx (w.alloc (.cells #[.slice A.pa P.np A.pc, .slice A.ca P.nc A.cc, .slice A.ma P.nm A.mc] 26)) w.heap.size #[.slice A.pa P.np A.pc, .slice A.ca P.nc A.cc, .slice A.ma P.nm A.mc] 26 ∧ Below w.heap.size w (w.alloc (.cells #[.slice A.pa P.np A.pc, .slice A.ca P.nc A.cc, .slice A.ma P.nm A.mc] 26))) := Lib.hid ⟨Bx.new _ _ _, (Below.refl _ _).alloc (Nat.le_refl _) _⟩
  have HC : Hid (∀ V, Below w.heap.size w V → Calls Try.prog 16 #[.agg #[.slice A.pa P.np A.pc, .slice A.ca P.nc A.cc, .slice A.ma P.nm A.mc]] V fun e w' => e = .returned (.int .i64 P.chk) ∧ Below V.heap.size V w') := Lib.hid fun V hV => check_c P A V (h.kept (Kept.of hV)) hf
  have HS : Hid (P.chk = 0 → ∀ i : Nat, i < P.nm → ∀ V, Below w.heap.size w V → Calls Try.prog 62 #[.agg #[.slice A.pa P.np A.pc, .slice A.ca P.nc A.cc, .slice A.ma P.nm A.mc], .int .i64 i] V (FlowP P A i V)) := Lib.hid fun hk i hi V hV => flowOf_c P A i V (h.kept (Kept.of hV)) hf hc hk hi
  have HNm := Lib.hid hf.nm
  clear h hf hc
  show Calls Try.prog 26 #[.agg #[.slice A.pa P.np A.pc, .slice A.ca P.nc A.cc, .slice A.ma P.nm A.mc]] w _
  go_enter Try.func26, Try.ntmps26
  go_upto_region 1 with fail
  obtain ⟨W0, hW0⟩ : ∃ q, q = w.alloc (.cells #[.slice A.pa P.np A.pc, .slice A.ca P.nc A.cc, .slice A.ma P.nm A.mc] 26) := ⟨_, rfl⟩
  rw [← hW0] at HB0 ⊢
  clear hW0
  have x0 : W0.cell? ⟨w.heap.size, 0, none⟩ = some (.slice A.pa P.np A.pc) := HB0.out.1.cell 0
  have x1 : W0.cell? ⟨w.heap.size, 1, none⟩ = some (.slice A.ca P.nc A.cc) := HB0.out.1.cell 1
  have x2 : W0.cell? ⟨w.heap.size, 2, none⟩ = some (.slice A.ma P.nm A.mc) := HB0.out.1.cell 2
  go_wp2_with fail
  refine (HC.out _ HB0.out.2).mono ?_
  rintro e W1 ⟨rfl, hb1⟩
  have HB1 : Hid (Bx W1 w.heap.size #[.slice A.pa P.np A.pc, .slice A.ca P.nc A.cc, .slice A.ma P.nm A.mc] 26 ∧ Below w.heap.size w W1) := Lib.hid ⟨HB0.out.1.below hb1, HB0.out.2.trans (hb1.mono HB0.out.2.size)⟩
  clear hb1 HC x0 x1 x2 HB0
  have x0 : W1.cell? ⟨w.heap.size, 0, none⟩ = some (.slice A.pa P.np A.pc) := HB1.out.1.cell 0
  have x1 : W1.cell? ⟨w.heap.size, 1, none⟩ = some (.slice A.ca P.nc A.cc) := HB1.out.1.cell 1
  have x2 : W1.cell? ⟨w.heap.size, 2, none⟩ = some (.slice A.ma P.nm A.mc) := HB1.out.1.cell 2
  obtain ⟨ck, hck⟩ : ∃ q, P.chk = q := ⟨_, rfl⟩
  have HCk := Lib.hid hck
  rw [hck]
  clear hck
  by_cases h0 : ck = 0
  case neg =>
    have d0 : (ck != 0) = true := by simpa using h0
    have HN := Lib.hid h0
    clear h0
    go_wp2
    go_ret3
    exact prgP_of (by unfold progR; rw [if_pos (by rw [HCk.out]; exact HN.out), HCk.out]) HB1.out.2
  subst h0
  go_wp2_with fail
  clear x0 x1 x2
  go_loopw [18] (fun i wr => ∃ k : Nat, k ≤ P.nm ∧ i = .int .i64 k ∧ Hid (Bx wr w.heap.size #[.slice A.pa P.np A.pc, .slice A.ca P.nc A.cc, .slice A.ma P.nm A.mc] 26 ∧ Below w.heap.size w wr) ∧ Hid (∀ j, j < k → (flowR P j).2 = 0)) (fun i _ => P.nm - (intOf i).toNat)
  case atStart => exact ⟨0, Nat.zero_le _, rfl, HB1, Lib.hid fun j hj => by omega⟩
  case round =>
    obtain ⟨k, hk, rfl, HW, HZ⟩ := hrel
    by_cases hkn : k < P.nm
    · have hki : (k : Int) < P.nm := by omega
      have HF := Lib.hid (HS.out HCk.out k hkn wr HW.out.2)
      have hbig : P.nm ≤ Big := HNm.out
      have x0 : wr.cell? ⟨w.heap.size, 0, none⟩ = some (.slice A.pa P.np A.pc) := HW.out.1.cell 0
      have x1 : wr.cell? ⟨w.heap.size, 1, none⟩ = some (.slice A.ca P.nc A.cc) := HW.out.1.cell 1
      have x2 : wr.cell? ⟨w.heap.size, 2, none⟩ = some (.slice A.ma P.nm A.mc) := HW.out.1.cell 2
      go_wp2_with fail
      clear x0 x1 x2
      refine HF.out.mono ?_
      rintro e W3 ⟨p, rfl, hb3, -⟩
      have HW3 : Hid (Bx W3 w.heap.size #[.slice A.pa P.np A.pc, .slice A.ca P.nc A.cc, .slice A.ma P.nm A.mc] 26 ∧ Below w.heap.size w W3) := Lib.hid ⟨HW.out.1.below hb3, HW.out.2.trans (hb3.mono HW.out.2.size)⟩
      clear hb3 HF
      obtain ⟨⟨q1, q2⟩, hq⟩ : ∃ q, flowR P k = q := ⟨_, rfl⟩
      have HQ := Lib.hid hq
      rw [hq]
      clear hq
      by_cases h0 : q2 = 0
      · have d0 : (q2 != 0) = false := by simpa using h0
        have HN := Lib.hid h0
        clear h0
        have hbig2 : P.nm < 9223372036854775808 := by unfold Big at hbig; omega
        go_wp2
        exact ⟨⟨k + 1, by omega, by go_num, HW3, Lib.hid fun j hj => by
          by_cases hjk : j = k
          · subst hjk; rw [HQ.out]; exact HN.out
          · exact HZ.out j (by omega)⟩, by simp [intOf]; omega⟩
      · have d0 : (q2 != 0) = true := by simpa using h0
        have HN := Lib.hid h0
        have hn0 : (if (q1, q2).2 = 0 then 0 else (q1, q2).1) = q1 := if_neg h0
        clear h0
        rw [hn0]
        go_wp2
        go_ret3
        exact prgP_of (progR_bad HCk.out hkn HZ.out HQ.out HN.out) HW3.out.2
    · have hkq : k = P.nm := by omega
      subst hkq
      go_wp2
      go_ret3
      exact prgP_of (progR_ok HCk.out HZ.out) HW.out.2
end Go.Proofs.Ytpiafgmncfibmaa.Vf
