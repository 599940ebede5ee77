import Derived.Test.YtgdlcnngplfjnaaDoorRa
import Derived.Test.YtgdlcnngplfjnaaDoorPz
import Derived.BigGuardPart
import Derived.LoopIn
import Derived.LoopNIn
import Derived.OwnWalkIn
import Derived.RangeFuncBound
import Derived.RangeFuncBox
import Derived.RangeFuncCalls
import Derived.RangeFuncLeaves
import Derived.RangeFuncNested
import Derived.Shelf.RegionOpen
import Derived.TacticsInMore
import Derived.Laws.BitsLemmas
import Derived.IntWalk
import Derived.Laws.BitsAllLaws
import Derived.Deep.DrawnRows
import Derived.WalkKit
import Derived.ProofKit
import Derived.OpenShut
import Derived.Deep.QuietTactic
import Derived.BigQuiet
import Derived.Outline
import Derived.WalkSmall
import Derived.WalkLawsBesides
import Derived.WalkSpells
import Derived.BigGuardPart
import Derived.RegionTactic
import Derived.Deep.RegionHeld3
import Derived.Lib.Hide
import Derived.Deep.MidRow
import Derived.Below
import Derived.Deep.RegionWith
import Derived.Deep.OwnRows
import Derived.Deep.AppendLies
import Derived.Deep.RegionLaw
import Derived.Deep.CutBlock
import Derived.Deep.DeepCutAuto
import Derived.Lib.SmallJoins
namespace Go.Proofs.YtgdlcnngplfjnaaDoor.Co
open Go.Shelf Go.ChangeShapes Go.WideShapes Go.ChangeAt Go.RowKit Go.Proofs.YtgdlcnngplfjnaaDoor.Vf
set_option linter.unusedVariables false
/-! ### The document's decimal (56), Line (39), Text (15) -/
def dgt (u : Nat) : UInt8 := UInt8.ofNat (48 + u % 10)
def preD (u : Nat) : List UInt8 := if u < 10 then [] else Lib.decDigits (u / 10)
theorem dec_pre (u : Nat) : Lib.decDigits u = preD u ++ [dgt u] := by
  unfold preD dgt
  rw [Lib.decDigits]
  by_cases h : u < 10
  · rw [dif_pos h, if_pos h, Nat.mod_eq_of_lt h]; rfl
  · rw [dif_neg h, if_neg h]
theorem conv_dgt (w : World) (u : Nat) (z : Int) (hz : z = 48 + ((u % 10 : Nat) : Int)) : (convert 22 9 (.slice (some ⟨w.heap.size, 0, none⟩) 1 1)).run Tryd.prog (w.alloc (.cells #[.int .u8 z] 5)) = .ok (.string ⟨[dgt u].toArray⟩) (w.alloc (.cells #[.int .u8 z] 5)) := by
  have h := conv_bys (w.alloc (.cells #[.int .u8 z] 5)) (some ⟨w.heap.size, 0, none⟩) 1 [z] (.inr ⟨w.heap.size, 0, rfl, by rw [World.size_alloc]; exact Nat.lt_succ_self _, fun i hi => by
    match i, hi with
    | 0, _ => exact (Bx.new w #[.int .u8 z] 5).cell 0⟩)
  have hs : strOfNums [z] = ⟨[dgt u].toArray⟩ := by
    unfold strOfNums dgt
    have : z.toNat = 48 + u % 10 := by omega
    simp only [List.map_cons, List.map_nil, this]
  rw [hs] at h
  exact h
theorem str_app (a b : List UInt8) : (⟨a.toArray⟩ : ByteArray) ++ ⟨b.toArray⟩ = ⟨(a ++ b).toArray⟩ := by
  apply ByteArray.ext
  apply Array.ext'
  rw [Joins.data_append]
set_option maxRecDepth 100000 in
set_option maxHeartbeats 4000000 in
theorem dec_nn (u : Nat) (hu : u ≤ 40000) (w : World) : Calls Tryd.prog 56 #[.int .i64 (u : Nat)] w fun e w' => e = .returned (.string ⟨(Lib.decDigits u).toArray⟩) ∧ Below w.heap.size w w' := by
  have d0 : decide ((u : Int) < 0) = false := decide_eq_false (by omega)
  have cd := conv_dgt w u (48 + (u : Int) % 10) (by omega)
  have HP := Lib.hid (dec_pre u)
  go_enter Tryd.func56, Tryd.ntmps56
  go_wp2_with fail
  go_loopw [0, 3] (fun iv sv wr => ∃ (v : Nat) (l : List UInt8), v ≤ u ∧ iv = .int .i64 (v : Nat) ∧ sv = .string ⟨l.toArray⟩ ∧ Hid (Lib.decDigits u = preD v ++ l ∧ Below w.heap.size w wr)) (fun iv _ _ => (intOf iv).toNat)
  case atStart => exact ⟨u, [dgt u], Nat.le_refl _, rfl, rfl, Lib.hid ⟨HP.out, (Below.refl _ _).alloc (Nat.le_refl _) _⟩⟩
  case round =>
    obtain ⟨v, l, hv, rfl, rfl, HR⟩ := hrel
    by_cases h10 : 10 ≤ v
    · have d1 : decide ((10 : Int) ≤ (v : Int)) = true := decide_eq_true (by omega)
      have cd2 := conv_dgt wr (v / 10) (48 + (v : Int) / 10 % 10) (by omega)
      have HN : Hid (Lib.decDigits u = preD (v / 10) ++ (dgt (v / 10) :: l)) := Lib.hid (by
        have h := HR.out.1
        unfold preD at h
        rw [if_neg (by omega), dec_pre (v / 10)] at h
        rw [h, List.append_assoc]
        rfl)
      have HA : Hid ((⟨[dgt (v / 10)].toArray⟩ : ByteArray) ++ ⟨l.toArray⟩ = ⟨(dgt (v / 10) :: l).toArray⟩) := Lib.hid (str_app _ _)
      have HB : Hid (Below w.heap.size w (wr.alloc (.cells #[.int .u8 (48 + (v : Int) / 10 % 10)] 5))) := Lib.hid (HR.out.2.alloc HR.out.2.size _)
      have hlen : ¬ 9223372036854775807 < (⟨[dgt (v / 10)].toArray⟩ : ByteArray).size + (⟨l.toArray⟩ : ByteArray).size := by
        have h1 := congrArg List.length HR.out.1
        have h2 := dec_len u (by omega)
        rw [List.length_append] at h1
        simp only [ByteArray.size, List.size_toArray, List.length_cons, List.length_nil]
        omega
      generalize (⟨l.toArray⟩ : ByteArray) = SL at HA hlen
      generalize (⟨[dgt (v / 10)].toArray⟩ : ByteArray) = SD at HA cd2 hlen
      go_wp2_with fail
      refine ⟨⟨v / 10, dgt (v / 10) :: l, by omega, by go_num, by rw [HA.out], Lib.hid ⟨HN.out, HB.out⟩⟩, by simp [intOf]; omega⟩
    · have d1 : decide ((10 : Int) ≤ (v : Int)) = false := decide_eq_false (by omega)
      have HF : Hid (Lib.decDigits u = l) := Lib.hid (by
        have h := HR.out.1
        unfold preD at h
        rw [if_pos (by omega)] at h
        exact h)
      go_wp2
      go_ret
      exact ⟨by rw [HF.out]; rfl, HR.out.2⟩
set_option maxRecDepth 100000 in
set_option maxHeartbeats 4000000 in
theorem dec_c (z : Int) (hz : -40000 ≤ z ∧ z ≤ 40000) (w : World) : Calls Tryd.prog 56 #[.int .i64 z] w fun e w' => e = .returned (.string ⟨(Lib.itoa z).toArray⟩) ∧ Below w.heap.size w w' := by
  by_cases h0 : z < 0
  · obtain ⟨u, rfl⟩ : ∃ u : Nat, z = -(u : Int) := ⟨z.natAbs, by omega⟩
    have HD := Lib.hid (dec_nn u (by omega) w)
    have d0 : decide (-(u : Int) < 0) = true := decide_eq_true h0
    have HI : Hid ((⟨#[45]⟩ : ByteArray) ++ ⟨(Lib.decDigits u).toArray⟩ = ⟨(Lib.itoa (-(u : Int))).toArray⟩) := Lib.hid (by
      rw [Lib.itoa_neg u (by omega)]
      exact str_app [45] _)
    have hn : (0 : Int) - -(u : Int) = (u : Int) := by omega
    have hlen : ¬ 9223372036854775807 < (⟨#[45]⟩ : ByteArray).size + (⟨(Lib.decDigits u).toArray⟩ : ByteArray).size := by
      have h2 := dec_len u (by omega)
      have h3 : (⟨(Lib.decDigits u).toArray⟩ : ByteArray).size = (Lib.decDigits u).length := by simp [ByteArray.size]
      have h4 : (⟨#[45]⟩ : ByteArray).size = 1 := rfl
      omega
    generalize (⟨(Lib.decDigits u).toArray⟩ : ByteArray) = SD at HD HI hlen
    go_enter Tryd.func56, Tryd.ntmps56
    go_wp2_with (first | (go_at_call 56; refine HD.out.mono ?_; rintro e w1 ⟨rfl, hb⟩; replace hb := Lib.hid hb))
    go_ret
    exact ⟨by rw [← HI.out]; rfl, hb.out⟩
  · obtain ⟨u, rfl⟩ : ∃ u : Nat, z = (u : Int) := ⟨z.toNat, by omega⟩
    rw [Lib.itoa_nonneg]
    exact dec_nn u (by omega) w
theorem str_size (l : List UInt8) : (⟨l.toArray⟩ : ByteArray).size = l.length := by simp [ByteArray.size]
set_option maxRecDepth 100000 in
set_option maxHeartbeats 4000000 in
theorem line_c (c : Nat) (hc : c < 41) (a b sz : Int) (ha : -40000 ≤ a ∧ a ≤ 40000) (hb : -40000 ≤ b ∧ b ≤ 40000) (w : World) : Calls Tryd.prog 39 #[.agg #[.int .i64 c, .int .i64 a, .int .i64 b, .int .i64 sz]] w fun e w' => e = .returned (.string ⟨(lineP c a b).toArray⟩) ∧ Below w.heap.size w w' := by
  have hn : nameS (c : Int) = nmC c := by unfold nameS; rw [if_pos (by omega)]; rfl
  have HX0 : Hid (Bx (w.alloc (.cells #[.int .i64 c, .int .i64 a, .int .i64 b, .int .i64 sz] 29)) w.heap.size #[.int .i64 c, .int .i64 a, .int .i64 b, .int .i64 sz] 29 ∧ Below w.heap.size w (w.alloc (.cells #[.int .i64 c, .int .i64 a, .int .i64 b, .int .i64 sz] 29))) := Lib.hid ⟨Bx.new _ _ _, (Below.refl _ _).alloc (Nat.le_refl _) _⟩
  have HNm : Hid (∀ V, Calls Tryd.prog 22 #[.int .i64 c] V fun e w' => e = .returned (.string ⟨(nmC c).toArray⟩) ∧ Below V.heap.size V w') := Lib.hid fun V => by
    have h := rname_c (c : Int) V
    rw [hn] at h
    exact h
  have HOp : Hid (∀ V, Calls Tryd.prog 31 #[.int .i64 c] V fun e w' => e = .returned (.string ⟨opS (kindO (c : Int))⟩) ∧ w' = V) := Lib.hid (Vf.operands_c c hc)
  have HDa := Lib.hid (fun V => dec_c a ha V)
  have HDb := Lib.hid (fun V => dec_c b hb V)
  have hla := Lib.itoa_length_le a (by omega) (by omega)
  have hlb := Lib.itoa_length_le b (by omega) (by omega)
  have hnl := nm_size c
  have HL : Hid (lineP c a b = nmC c ++ (if kindO (c : Int) = 0 then [] else 32 :: Lib.itoa a) ++ (if kindO (c : Int) = 4 then 32 :: Lib.itoa b else [])) := Lib.hid rfl
  clear hn
  go_enter Tryd.func39, Tryd.ntmps39
  go_wp2_with fail
  generalize w.alloc (.cells #[.int .i64 c, .int .i64 a, .int .i64 b, .int .i64 sz] 29) = W0 at HX0 ⊢
  generalize hob : w.heap.size = ob at HX0 ⊢
  refine (HNm.out _).mono ?_
  rintro e w1 ⟨rfl, hb1⟩
  have S1 : Hid (Bx w1 ob #[.int .i64 c, .int .i64 a, .int .i64 b, .int .i64 sz] 29 ∧ Below ob w w1) := Lib.hid ⟨HX0.out.1.below hb1, HX0.out.2.trans (hb1.mono (by have := HX0.out.1.lt; omega))⟩
  have q0 : w1.cell? ⟨ob, 0, none⟩ = some (.int .i64 c) := S1.out.1.cell 0
  have q1 : w1.cell? ⟨ob, 1, none⟩ = some (.int .i64 a) := S1.out.1.cell 1
  clear hb1
  go_wp2_with fail
  refine (HOp.out _).mono ?_
  rintro e w2 ⟨rfl, hw⟩
  obtain rfl := hw.symm
  clear hw
  rcases kindO_cs (c : Int) with hk | hk | hk | hk | hk
  · have hE : Hid (lineP c a b = nmC c) := Lib.hid (by rw [HL.out, hk]; simp)
    rw [hk, show opS 0 = #[] from rfl]
    clear HL HDa HDb HNm
    generalize hSN : (⟨(nmC c).toArray⟩ : ByteArray) = SN at *
    go_wp2_with fail
    go_ret
    refine ⟨?_, ?_⟩
    · rw [hE.out, ← hSN]; rfl
    · subst hob; exact S1.out.2
  · have hE : Hid (((⟨(nmC c).toArray⟩ : ByteArray) ++ ⟨#[32]⟩) ++ ⟨(Lib.itoa a).toArray⟩ = ⟨(lineP c a b).toArray⟩) := Lib.hid (by
      rw [HL.out, hk, show (⟨#[32]⟩ : ByteArray) = ⟨[32].toArray⟩ from rfl, str_app, str_app]
      simp)
    have e1 : ¬ 9223372036854775807 < (⟨(nmC c).toArray⟩ : ByteArray).size + (⟨#[32]⟩ : ByteArray).size := by
      rw [str_size, show (⟨#[32]⟩ : ByteArray).size = 1 from rfl]; omega
    have e2 : ¬ 9223372036854775807 < ((⟨(nmC c).toArray⟩ : ByteArray) ++ ⟨#[32]⟩).size + (⟨(Lib.itoa a).toArray⟩ : ByteArray).size := by
      rw [show (⟨#[32]⟩ : ByteArray) = ⟨[32].toArray⟩ from rfl, str_app, str_size, str_size, List.length_append, List.length_singleton]; omega
    rw [hk, show opS 1 = #[117] from rfl]
    clear HL HNm HDb
    generalize (⟨(nmC c).toArray⟩ : ByteArray) = SN at *
    generalize (⟨(Lib.itoa a).toArray⟩ : ByteArray) = SA at *
    go_wp2_with (first | (go_at_call 56; refine (HDa.out _).mono ?_; rintro e w3 ⟨rfl, hb3⟩; replace hb3 := Lib.hid hb3))
    go_ret
    refine ⟨by rw [← hE.out]; rfl, ?_⟩
    subst hob
    exact S1.out.2.trans (hb3.out.mono S1.out.2.size)
  · have hE : Hid (((⟨(nmC c).toArray⟩ : ByteArray) ++ ⟨#[32]⟩) ++ ⟨(Lib.itoa a).toArray⟩ = ⟨(lineP c a b).toArray⟩) := Lib.hid (by
      rw [HL.out, hk, show (⟨#[32]⟩ : ByteArray) = ⟨[32].toArray⟩ from rfl, str_app, str_app]
      simp)
    have e1 : ¬ 9223372036854775807 < (⟨(nmC c).toArray⟩ : ByteArray).size + (⟨#[32]⟩ : ByteArray).size := by
      rw [str_size, show (⟨#[32]⟩ : ByteArray).size = 1 from rfl]; omega
    have e2 : ¬ 9223372036854775807 < ((⟨(nmC c).toArray⟩ : ByteArray) ++ ⟨#[32]⟩).size + (⟨(Lib.itoa a).toArray⟩ : ByteArray).size := by
      rw [show (⟨#[32]⟩ : ByteArray) = ⟨[32].toArray⟩ from rfl, str_app, str_size, str_size, List.length_append, List.length_singleton]; omega
    rw [hk, show opS 2 = #[115] from rfl]
    clear HL HNm HDb
    generalize (⟨(nmC c).toArray⟩ : ByteArray) = SN at *
    generalize (⟨(Lib.itoa a).toArray⟩ : ByteArray) = SA at *
    go_wp2_with (first | (go_at_call 56; refine (HDa.out _).mono ?_; rintro e w3 ⟨rfl, hb3⟩; replace hb3 := Lib.hid hb3))
    go_ret
    refine ⟨by rw [← hE.out]; rfl, ?_⟩
    subst hob
    exact S1.out.2.trans (hb3.out.mono S1.out.2.size)
  · have hE : Hid (((⟨(nmC c).toArray⟩ : ByteArray) ++ ⟨#[32]⟩) ++ ⟨(Lib.itoa a).toArray⟩ = ⟨(lineP c a b).toArray⟩) := Lib.hid (by
      rw [HL.out, hk, show (⟨#[32]⟩ : ByteArray) = ⟨[32].toArray⟩ from rfl, str_app, str_app]
      simp)
    have e1 : ¬ 9223372036854775807 < (⟨(nmC c).toArray⟩ : ByteArray).size + (⟨#[32]⟩ : ByteArray).size := by
      rw [str_size, show (⟨#[32]⟩ : ByteArray).size = 1 from rfl]; omega
    have e2 : ¬ 9223372036854775807 < ((⟨(nmC c).toArray⟩ : ByteArray) ++ ⟨#[32]⟩).size + (⟨(Lib.itoa a).toArray⟩ : ByteArray).size := by
      rw [show (⟨#[32]⟩ : ByteArray) = ⟨[32].toArray⟩ from rfl, str_app, str_size, str_size, List.length_append, List.length_singleton]; omega
    rw [hk, show opS 3 = #[111] from rfl]
    clear HL HNm HDb
    generalize (⟨(nmC c).toArray⟩ : ByteArray) = SN at *
    generalize (⟨(Lib.itoa a).toArray⟩ : ByteArray) = SA at *
    go_wp2_with (first | (go_at_call 56; refine (HDa.out _).mono ?_; rintro e w3 ⟨rfl, hb3⟩; replace hb3 := Lib.hid hb3))
    go_ret
    refine ⟨by rw [← hE.out]; rfl, ?_⟩
    subst hob
    exact S1.out.2.trans (hb3.out.mono S1.out.2.size)
  · have hE : Hid (((((⟨(nmC c).toArray⟩ : ByteArray) ++ ⟨#[32]⟩) ++ ⟨(Lib.itoa a).toArray⟩) ++ ⟨#[32]⟩) ++ ⟨(Lib.itoa b).toArray⟩ = ⟨(lineP c a b).toArray⟩) := Lib.hid (by
      rw [HL.out, hk, show (⟨#[32]⟩ : ByteArray) = ⟨[32].toArray⟩ from rfl, str_app, str_app, str_app, str_app]
      simp)
    have e1 : ¬ 9223372036854775807 < (⟨(nmC c).toArray⟩ : ByteArray).size + (⟨#[32]⟩ : ByteArray).size := by
      rw [str_size, show (⟨#[32]⟩ : ByteArray).size = 1 from rfl]; omega
    have e2 : ¬ 9223372036854775807 < ((⟨(nmC c).toArray⟩ : ByteArray) ++ ⟨#[32]⟩).size + (⟨(Lib.itoa a).toArray⟩ : ByteArray).size := by
      rw [show (⟨#[32]⟩ : ByteArray) = ⟨[32].toArray⟩ from rfl, str_app, str_size, str_size, List.length_append, List.length_singleton]; omega
    have e3 : ¬ 9223372036854775807 < (((⟨(nmC c).toArray⟩ : ByteArray) ++ ⟨#[32]⟩) ++ ⟨(Lib.itoa a).toArray⟩).size + (⟨#[32]⟩ : ByteArray).size := by
      rw [show (⟨#[32]⟩ : ByteArray) = ⟨[32].toArray⟩ from rfl, str_app, str_app, str_size, str_size, List.length_append, List.length_append, List.length_singleton]; omega
    have e4 : ¬ 9223372036854775807 < ((((⟨(nmC c).toArray⟩ : ByteArray) ++ ⟨#[32]⟩) ++ ⟨(Lib.itoa a).toArray⟩) ++ ⟨#[32]⟩).size + (⟨(Lib.itoa b).toArray⟩ : ByteArray).size := by
      rw [show (⟨#[32]⟩ : ByteArray) = ⟨[32].toArray⟩ from rfl, str_app, str_app, str_app, str_size, str_size, List.length_append, List.length_append, List.length_append, List.length_singleton]; omega
    have q2 : w1.cell? ⟨ob, 2, none⟩ = some (.int .i64 b) := S1.out.1.cell 2
    rw [hk, show opS 4 = #[117, 117] from rfl]
    clear HL HNm
    generalize (⟨(nmC c).toArray⟩ : ByteArray) = SN at *
    generalize (⟨(Lib.itoa a).toArray⟩ : ByteArray) = SA at *
    generalize (⟨(Lib.itoa b).toArray⟩ : ByteArray) = SB at *
    go_wp2_with fail
    refine (HDa.out _).mono ?_
    rintro e w3 ⟨rfl, hb3⟩
    have q3 : w3.cell? ⟨ob, 2, none⟩ = some (.int .i64 b) := (hb3.cell (p := ⟨ob, 2, none⟩) S1.out.1.lt).trans q2
    replace hb3 := Lib.hid hb3
    go_wp2_with fail
    refine (HDb.out _).mono ?_
    rintro e w4 ⟨rfl, hb4⟩
    replace hb4 := Lib.hid hb4
    go_wp2_with fail
    go_ret
    refine ⟨by rw [← hE.out]; rfl, ?_⟩
    subst hob
    have h3 := S1.out.2.trans (hb3.out.mono S1.out.2.size)
    exact h3.trans (hb4.out.mono h3.size)
end Go.Proofs.YtgdlcnngplfjnaaDoor.Co
