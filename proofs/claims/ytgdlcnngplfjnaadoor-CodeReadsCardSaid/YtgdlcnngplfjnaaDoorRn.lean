import Derived.Test.YtgdlcnngplfjnaaDoorCd
import Derived.Test.YtgdlcnngplfjnaaDoorKn
import Derived.Test.YtgdlcnngplfjnaaDoorXa
import Derived.BigGuardPart
import Derived.LoopIn
import Derived.LoopNIn
import Derived.OwnWalkIn
import Derived.RangeFuncBound
import Derived.RangeFuncBox
import Derived.RangeFuncCalls
import Derived.RangeFuncLeaves
import Derived.RangeFuncNested
import Derived.Shelf.RegionOpen
import Derived.TacticsInMore
import Derived.Laws.BitsLemmas
import Derived.IntWalk
import Derived.Laws.BitsAllLaws
import Derived.Deep.DrawnRows
import Derived.WalkKit
import Derived.ProofKit
import Derived.OpenShut
import Derived.Deep.QuietTactic
import Derived.BigQuiet
import Derived.Outline
import Derived.WalkSmall
import Derived.WalkLawsBesides
import Derived.WalkSpells
import Derived.BigGuardPart
import Derived.RegionTactic
import Derived.Deep.RegionHeld3
import Derived.Lib.Hide
import Derived.Deep.MidRow
import Derived.Below
import Derived.Deep.RegionWith
import Derived.Deep.OwnRows
import Derived.Deep.AppendLies
import Derived.Deep.RegionLaw
import Derived.Deep.CutBlock
import Derived.Deep.DeepCutAuto
namespace Go.Proofs.YtgdlcnngplfjnaaDoor.Co
open Go.Shelf Go.ChangeShapes Go.WideShapes Go.ChangeAt Go.RowKit Go.Proofs.YtgdlcnngplfjnaaDoor.Vf
set_option linter.unusedVariables false
/-! ### The document's Name (22), Kind (20); of (11) -/
set_option maxRecDepth 100000 in
set_option maxHeartbeats 4000000 in
theorem rname_c (c : Int) (w : World) : Calls Tryd.prog 22 #[.int .i64 c] w fun e w' => e = .returned (.string ⟨(nameS c).toArray⟩) ∧ Below w.heap.size w w' := by
  by_cases h0 : c < 0
  · have dc1 : decide (c < 0) = true := decide_eq_true h0
    have hn : nameS c = [] := if_neg (by omega)
    rw [hn]
    clear h0 hn
    go_enter Tryd.func22, Tryd.ntmps22
    go_wp2
    go_ret
    exact ⟨rfl, (Below.refl _ _).alloc (Nat.le_refl _) _⟩
  · have dc1 : decide (c < 0) = false := decide_eq_false h0
    by_cases h1 : 40 < c
    · have dc2 : decide (40 < c) = true := decide_eq_true h1
      have hn : nameS c = [] := if_neg (by omega)
      rw [hn]
      clear h0 h1 hn
      go_enter Tryd.func22, Tryd.ntmps22
      go_wp2
      go_ret
      exact ⟨rfl, (Below.refl _ _).alloc (Nat.le_refl _) _⟩
    · have dc2 : decide (40 < c) = false := decide_eq_false h1
      obtain ⟨k, rfl⟩ : ∃ k : Nat, c = k := ⟨c.toNat, by omega⟩
      have hk : k < 41 := by omega
      have hn : nameS (k : Int) = nmC k := by unfold nameS; rw [if_pos (by omega)]; rfl
      rw [hn]
      have q := nmV_at hk
      have hV : nmV = #[.string ⟨#[110, 111, 112]⟩, .string ⟨#[99, 111, 110, 115, 116]⟩, .string ⟨#[115, 109, 97, 108, 108]⟩, .string ⟨#[110, 117, 108, 108]⟩, .string ⟨#[103, 101, 116]⟩, .string ⟨#[115, 101, 116]⟩, .string ⟨#[100, 117, 112]⟩, .string ⟨#[100, 114, 111, 112]⟩, .string ⟨#[115, 119, 97, 112]⟩, .string ⟨#[97, 100, 100]⟩, .string ⟨#[115, 117, 98]⟩, .string ⟨#[109, 117, 108]⟩, .string ⟨#[100, 105, 118]⟩, .string ⟨#[114, 101, 109]⟩, .string ⟨#[97, 110, 100]⟩, .string ⟨#[111, 114]⟩, .string ⟨#[120, 111, 114]⟩, .string ⟨#[115, 104, 108]⟩, .string ⟨#[115, 104, 114]⟩, .string ⟨#[117, 115, 104, 114]⟩, .string ⟨#[110, 101, 103]⟩, .string ⟨#[108, 116]⟩, .string ⟨#[101, 113]⟩, .string ⟨#[115, 97, 109, 101]⟩, .string ⟨#[105, 115, 110, 117, 108, 108]⟩, .string ⟨#[106, 117, 109, 112]⟩, .string ⟨#[105, 102]⟩, .string ⟨#[99, 97, 108, 108]⟩, .string ⟨#[114, 101, 116]⟩, .string ⟨#[110, 101, 119]⟩, .string ⟨#[103, 101, 116, 102]⟩, .string ⟨#[112, 117, 116, 102]⟩, .string ⟨#[110, 101, 119, 97]⟩, .string ⟨#[103, 101, 116, 97]⟩, .string ⟨#[112, 117, 116, 97]⟩, .string ⟨#[108, 101, 110]⟩, .string ⟨#[101, 110, 116, 101, 114]⟩, .string ⟨#[101, 120, 105, 116]⟩, .string ⟨#[115, 112, 97, 119, 110]⟩, .string ⟨#[106, 111, 105, 110]⟩, .string ⟨#[112, 114, 105, 110, 116]⟩] := by rfl
      rw [hV] at q
      clear h0 h1 hn hV
      go_enter Tryd.func22, Tryd.ntmps22
      go_upto_region 2 with fail
      generalize (#[.string ⟨#[110, 111, 112]⟩, .string ⟨#[99, 111, 110, 115, 116]⟩, .string ⟨#[115, 109, 97, 108, 108]⟩, .string ⟨#[110, 117, 108, 108]⟩, .string ⟨#[103, 101, 116]⟩, .string ⟨#[115, 101, 116]⟩, .string ⟨#[100, 117, 112]⟩, .string ⟨#[100, 114, 111, 112]⟩, .string ⟨#[115, 119, 97, 112]⟩, .string ⟨#[97, 100, 100]⟩, .string ⟨#[115, 117, 98]⟩, .string ⟨#[109, 117, 108]⟩, .string ⟨#[100, 105, 118]⟩, .string ⟨#[114, 101, 109]⟩, .string ⟨#[97, 110, 100]⟩, .string ⟨#[111, 114]⟩, .string ⟨#[120, 111, 114]⟩, .string ⟨#[115, 104, 108]⟩, .string ⟨#[115, 104, 114]⟩, .string ⟨#[117, 115, 104, 114]⟩, .string ⟨#[110, 101, 103]⟩, .string ⟨#[108, 116]⟩, .string ⟨#[101, 113]⟩, .string ⟨#[115, 97, 109, 101]⟩, .string ⟨#[105, 115, 110, 117, 108, 108]⟩, .string ⟨#[106, 117, 109, 112]⟩, .string ⟨#[105, 102]⟩, .string ⟨#[99, 97, 108, 108]⟩, .string ⟨#[114, 101, 116]⟩, .string ⟨#[110, 101, 119]⟩, .string ⟨#[103, 101, 116, 102]⟩, .string ⟨#[112, 117, 116, 102]⟩, .string ⟨#[110, 101, 119, 97]⟩, .string ⟨#[103, 101, 116, 97]⟩, .string ⟨#[112, 117, 116, 97]⟩, .string ⟨#[108, 101, 110]⟩, .string ⟨#[101, 110, 116, 101, 114]⟩, .string ⟨#[101, 120, 105, 116]⟩, .string ⟨#[115, 112, 97, 119, 110]⟩, .string ⟨#[106, 111, 105, 110]⟩, .string ⟨#[112, 114, 105, 110, 116]⟩] : Array Value) = VV at q ⊢
      go_wp2
      go_ret
      exact ⟨rfl, (Below.refl _ _).alloc (Nat.le_refl _) _⟩
set_option maxRecDepth 100000 in
set_option maxHeartbeats 4000000 in
theorem rkind_c (s : ByteArray) (w : World) : Calls Tryd.prog 20 #[.string s] w fun e w' => e = .returned (kdA s.data.toList) ∧ Below w.heap.size w w' := by
  go_enter Tryd.func20, Tryd.ntmps20
  go_wp2_with fail
  go_loopw [4] (fun i wr => ∃ k : Nat, k ≤ 41 ∧ i = .int .i64 k ∧ Hid (Below w.heap.size w wr ∧ ∀ j, j < k → nmC j ≠ s.data.toList)) (fun i _ => 41 - (intOf i).toNat)
  case atStart => exact ⟨0, by omega, rfl, Lib.hid ⟨Below.refl _ _, fun j hj => by omega⟩⟩
  case round =>
    obtain ⟨k, hk, rfl, HB⟩ := hrel
    by_cases hlt : k < 41
    · have d0 : decide ((k : Int) ≤ 40) = true := decide_eq_true (by omega)
      have HN : Hid (Calls Tryd.prog 22 #[.int .i64 k] wr fun e w' => e = .returned (.string ⟨(nmC k).toArray⟩) ∧ Below wr.heap.size wr w') := Lib.hid (by
        have h := rname_c (k : Int) wr
        have hn : nameS (k : Int) = nmC k := by unfold nameS; rw [if_pos (by omega)]; rfl
        rw [hn] at h
        exact h)
      by_cases he : nmC k = s.data.toList
      · have hb : ((⟨(nmC k).toArray⟩ : ByteArray).toList == s.toList) = true := by
          rw [ByteArray.toList_mk, ByteArray.toList_eq, he]; simp
        have hkd : Hid (∀ V, Below w.heap.size w V → (Ending.returned (.tuple #[.int .i64 k, .bool true]) = Ending.returned (kdA s.data.toList) ∧ Below w.heap.size w V)) := Lib.hid fun V hV => by
          refine ⟨?_, hV⟩
          unfold kdA
          rw [← he, kindP_nm hlt]
        generalize (⟨(nmC k).toArray⟩ : ByteArray) = nm at HN hb
        clear he
        go_wp2_with (first | (go_at_call 22; refine HN.out.mono ?_; rintro e w1 ⟨rfl, hb1⟩; replace hb1 := Lib.hid hb1))
        go_ret2
        exact hkd.out _ (HB.out.1.trans (hb1.out.mono HB.out.1.size))
      · have hb : ((⟨(nmC k).toArray⟩ : ByteArray).toList == s.toList) = false := by
          rw [ByteArray.toList_mk, ByteArray.toList_eq, beq_eq_false_iff_ne]
          exact he
        have HK2 : Hid (∀ j, j < k + 1 → nmC j ≠ s.data.toList) := Lib.hid fun j hj => by
          rcases Nat.lt_or_ge j k with h | h
          · exact HB.out.2 j h
          · obtain rfl : j = k := by omega
            exact he
        generalize (⟨(nmC k).toArray⟩ : ByteArray) = nm at HN hb
        clear he
        go_wp2_with (first | (go_at_call 22; refine HN.out.mono ?_; rintro e w1 ⟨rfl, hb1⟩; replace hb1 := Lib.hid hb1))
        go_roundw
        case rel => exact ⟨k + 1, by omega, by go_num, Lib.hid ⟨HB.out.1.trans (hb1.out.mono HB.out.1.size), HK2.out⟩⟩
        case measure => simp [intOf]; omega
    · have hk41 : k = 41 := by omega
      subst hk41
      have hkd : Hid (Ending.returned (.tuple #[.int .i64 0, .bool false]) = Ending.returned (kdA s.data.toList)) := Lib.hid (by
        unfold kdA
        cases hq : kindP s.data.toList with
        | none => rfl
        | some c => exact absurd (kindP_lt hq).2 (HB.out.2 c (kindP_lt hq).1))
      go_wp2
      go_ret2
      exact ⟨hkd.out, HB.out.1⟩
set_option maxRecDepth 100000 in
theorem of_c (a b c d : Int) (w : World) : Calls Tryd.prog 11 #[.agg #[.int .i64 a, .int .i64 b, .int .i64 c, .int .i64 d]] w fun e w' => e = .returned (.agg #[.int .i64 a, .int .i64 b, .int .i64 c, .int .i64 d]) ∧ Below w.heap.size w w' := by
  go_enter Tryd.func11, Tryd.ntmps11
  go_wp2
  exact bodyPost_ret (v := .agg #[.int .i64 a, .int .i64 b, .int .i64 c, .int .i64 d]) (by simp [results, Tryd.results11, go_sem]) rfl ⟨rfl, ((Below.refl _ _).alloc (Nat.le_refl _) _).alloc (by simp) _⟩
end Go.Proofs.YtgdlcnngplfjnaaDoor.Co
