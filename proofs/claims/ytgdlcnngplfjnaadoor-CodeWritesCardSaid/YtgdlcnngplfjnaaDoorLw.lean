import Derived.Test.YtgdlcnngplfjnaaDoorLp
import Derived.Test.YtgdlcnngplfjnaaDoorRw
import Derived.Test.YtgdlcnngplfjnaaDoorRn
import Derived.BigGuardPart
import Derived.LoopIn
import Derived.LoopNIn
import Derived.OwnWalkIn
import Derived.RangeFuncBound
import Derived.RangeFuncBox
import Derived.RangeFuncCalls
import Derived.RangeFuncLeaves
import Derived.RangeFuncNested
import Derived.Shelf.RegionOpen
import Derived.TacticsInMore
import Derived.Laws.BitsLemmas
import Derived.IntWalk
import Derived.Laws.BitsAllLaws
import Derived.Deep.DrawnRows
import Derived.WalkKit
import Derived.ProofKit
import Derived.OpenShut
import Derived.Deep.QuietTactic
import Derived.BigQuiet
import Derived.Outline
import Derived.WalkSmall
import Derived.WalkLawsBesides
import Derived.WalkSpells
import Derived.BigGuardPart
import Derived.RegionTactic
import Derived.Deep.RegionHeld3
import Derived.Lib.Hide
import Derived.Deep.MidRow
import Derived.Below
import Derived.Deep.RegionWith
import Derived.Deep.OwnRows
import Derived.Deep.AppendLies
import Derived.Deep.RegionLaw
import Derived.Deep.CutBlock
import Derived.Deep.DeepCutAuto
namespace Go.Proofs.YtgdlcnngplfjnaaDoor.Co
open Go.Shelf Go.ChangeShapes Go.WideShapes Go.ChangeAt Go.RowKit Go.Proofs.YtgdlcnngplfjnaaDoor.Vf
set_option linter.unusedVariables false
/-! ### The law CodeWrites (4) -/
/-- What Write tells, all at once. -/
theorem WrR.all {c a b : Int} {w w' : World} {e : Ending} (h : WrR c a b w e w') : ∃ x cx l, e = .returned (.tuple #[.slice x l.length cx, .int .i64 (wrE c a b)]) ∧ Bys w' x l ∧ l = (if wrE c a b = 0 then wrL c a b else []) ∧ Below w.heap.size w w' := by
  unfold WrR at h
  by_cases h0 : wrE c a b = 0
  · rw [if_pos h0] at h
    obtain ⟨x, cx, rfl, h1, h2, h3, h4⟩ := h
    exact ⟨x, cx, _, by rw [h0], h1, (if_pos h0).symm, h4⟩
  · rw [if_neg h0] at h
    exact ⟨none, 0, [], h.1, .inl rfl, (if_neg h0).symm, h.2⟩
set_option maxRecDepth 100000 in
set_option maxHeartbeats 4000000 in
theorem writes_law (c a b sz n : Int) (s : ByteArray) (hs : s.size ≤ maxLen) (w : World) (hT : Tbs w) : Calls Tryd.prog 4 #[.agg #[.int .i64 c, .int .i64 a, .int .i64 b, .int .i64 sz], .int .i64 n, .string s] w fun e w' => e = .returned (.bool true) ∧ Below w.heap.size w w' := by
  have HT := Lib.hid hT
  clear hT
  have hA : Below w.heap.size w (w.alloc (.cells #[.int .i64 c, .int .i64 a, .int .i64 b, .int .i64 sz] 25)) := (Below.refl _ _).alloc (Nat.le_refl _) _
  have HX0 : Hid (Bx (w.alloc (.cells #[.int .i64 c, .int .i64 a, .int .i64 b, .int .i64 sz] 25)) w.heap.size #[.int .i64 c, .int .i64 a, .int .i64 b, .int .i64 sz] 25) := Lib.hid (Bx.new _ _ _)
  have HA := Lib.hid hA
  clear hA
  have HK := Lib.hid (known_c _ (HT.out.below HA.out))
  go_enter Tryd.func4, Tryd.ntmps4
  go_wp2_with fail
  generalize w.alloc (.cells #[.int .i64 c, .int .i64 a, .int .i64 b, .int .i64 sz] 25) = W0 at HA HX0 HK ⊢
  generalize hob : w.heap.size = ob at HX0 ⊢
  refine HK.out.mono ?_
  rintro e w1 ⟨rfl, hb1⟩
  have S1 : Hid (Below w.heap.size w w1 ∧ Bx w1 ob #[.int .i64 c, .int .i64 a, .int .i64 b, .int .i64 sz] 25) := Lib.hid ⟨HA.out.trans (hb1.mono HA.out.size), HX0.out.below hb1⟩
  clear hb1 HK
  have q0 : w1.cell? ⟨ob, 0, none⟩ = some (.int .i64 c) := S1.out.2.cell 0
  have q1 : w1.cell? ⟨ob, 1, none⟩ = some (.int .i64 a) := S1.out.2.cell 1
  have q2 : w1.cell? ⟨ob, 2, none⟩ = some (.int .i64 b) := S1.out.2.cell 2
  have q3 : w1.cell? ⟨ob, 3, none⟩ = some (.int .i64 sz) := S1.out.2.cell 3
  go_wp2_with fail
  refine (write_c c a b sz w1).mono ?_
  intro e w2 hw
  obtain ⟨x1, cx1, l1, rfl, hy1, hl1, hb2⟩ := hw.all
  have S2 : Hid (Below w.heap.size w w2 ∧ Bx w2 ob #[.int .i64 c, .int .i64 a, .int .i64 b, .int .i64 sz] 25 ∧ Bys w2 x1 l1) := Lib.hid ⟨S1.out.1.trans (hb2.mono S1.out.1.size), S1.out.2.below hb2, hy1⟩
  clear hw hy1 hb2 q0 q1 q2 q3
  replace hl1 := Lib.hid hl1
  have q0 : w2.cell? ⟨ob, 0, none⟩ = some (.int .i64 c) := S2.out.2.1.cell 0
  have q1 : w2.cell? ⟨ob, 1, none⟩ = some (.int .i64 a) := S2.out.2.1.cell 1
  have q2 : w2.cell? ⟨ob, 2, none⟩ = some (.int .i64 b) := S2.out.2.1.cell 2
  have q3 : w2.cell? ⟨ob, 3, none⟩ = some (.int .i64 sz) := S2.out.2.1.cell 3
  go_wp2_with fail
  refine (of_c c a b sz w2).mono ?_
  rintro e w3 ⟨rfl, hb3⟩
  have S3 : Hid (Below w.heap.size w w3 ∧ Bys w3 x1 l1) := Lib.hid ⟨S2.out.1.trans (hb3.mono S2.out.1.size), S2.out.2.2.kept (Kept.of hb3)⟩
  clear hb3 q0 q1 q2 q3
  go_wp2_with fail
  refine (rwrite_c c a b sz w3).mono ?_
  intro e w4 hw
  obtain ⟨x2, cx2, l2, rfl, hy2, hl2, hb4⟩ := hw.all
  obtain rfl : l2 = l1 := hl2.trans hl1.out.symm
  have S4 : Hid (Below w.heap.size w w4 ∧ Bys w4 x1 l2 ∧ Bys w4 x2 l2) := Lib.hid ⟨S3.out.1.trans (hb4.mono S3.out.1.size), S3.out.2.kept (Kept.of hb4), hy2⟩
  clear hw hy2 hl1 hl2 hb4
  generalize wrE c a b = er
  go_wp2_with fail
  refine (kind_c s hs w4 (HT.out.below S4.out.1)).mono ?_
  rintro e w5 ⟨rfl, hb5⟩
  obtain ⟨kn, kb, hkn⟩ : ∃ kn kb, kdA s.data.toList = .tuple #[.int .i64 kn, .bool kb] := by
    unfold kdA
    split
    · exact ⟨_, _, rfl⟩
    · exact ⟨_, _, rfl⟩
  have S5 : Hid (Below w.heap.size w w5 ∧ Bys w5 x1 l2 ∧ Bys w5 x2 l2) := Lib.hid ⟨S4.out.1.trans (hb5.mono S4.out.1.size), S4.out.2.1.kept (Kept.of hb5), S4.out.2.2.kept (Kept.of hb5)⟩
  clear hb5
  have HKn := Lib.hid hkn
  rw [hkn]
  clear hkn
  go_wp2_with fail
  refine (rkind_c s w5).mono ?_
  rintro e w6 ⟨rfl, hb6⟩
  rw [HKn.out]
  have S6 : Hid (Below w.heap.size w w6 ∧ Bys w6 x1 l2 ∧ Bys w6 x2 l2) := Lib.hid ⟨S5.out.1.trans (hb6.mono S5.out.1.size), S5.out.2.1.kept (Kept.of hb6), S5.out.2.2.kept (Kept.of hb6)⟩
  clear hb6
  have cv1 : (convert 22 9 (.slice x1 l2.length cx1)).run Tryd.prog w6 = .ok (.string (strOfNums l2)) w6 := conv_bys w6 x1 cx1 l2 S6.out.2.1
  have cv2 : (convert 22 9 (.slice x2 l2.length cx2)).run Tryd.prog w6 = .ok (.string (strOfNums l2)) w6 := conv_bys w6 x2 cx2 l2 S6.out.2.2
  have HN1 := Lib.hid (name_c n w6 (HT.out.below S6.out.1))
  have HN2 : Hid (∀ V, Calls Tryd.prog 22 #[.int .i64 n] V fun e w' => e = .returned (.string ⟨(nameS n).toArray⟩) ∧ Below V.heap.size V w') := Lib.hid (rname_c n)
  generalize strOfNums l2 = SS at cv1 cv2
  generalize (⟨(nameS n).toArray⟩ : ByteArray) = NS at HN1 HN2
  generalize l2.length = ll at cv1 cv2 ⊢
  go_wp2_with (first | (go_at_call 21; refine HN1.out.mono ?_; rintro e w7 ⟨rfl, hb7⟩; replace hb7 := Lib.hid hb7) | (go_at_call 22; refine (HN2.out _).mono ?_; rintro e w8 ⟨rfl, hb8⟩; replace hb8 := Lib.hid hb8))
  go_ret
  have h7 := S6.out.1.trans (hb7.out.mono S6.out.1.size)
  exact ⟨rfl, h7.trans (hb8.out.mono h7.size)⟩
end Go.Proofs.YtgdlcnngplfjnaaDoor.Co
