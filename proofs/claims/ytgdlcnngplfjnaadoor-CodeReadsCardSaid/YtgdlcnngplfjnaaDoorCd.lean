import Derived.Test.YtgdlcnngplfjnaaDoorBw
import Derived.Test.YtgdlcnngplfjnaaDoorYy
import Derived.Test.YtgdlcnngplfjnaaDoorCp
import Derived.Test.YtgdlcnngplfjnaaDoorCa
import Derived.BigGuardPart
import Derived.LoopIn
import Derived.LoopNIn
import Derived.OwnWalkIn
import Derived.RangeFuncBound
import Derived.RangeFuncBox
import Derived.RangeFuncCalls
import Derived.RangeFuncLeaves
import Derived.RangeFuncNested
import Derived.Shelf.RegionOpen
import Derived.TacticsInMore
import Derived.Laws.BitsLemmas
import Derived.IntWalk
import Derived.Laws.BitsAllLaws
import Derived.Deep.DrawnRows
import Derived.WalkKit
import Derived.ProofKit
import Derived.OpenShut
import Derived.Deep.QuietTactic
import Derived.BigQuiet
import Derived.Outline
import Derived.WalkSmall
import Derived.WalkLawsBesides
import Derived.WalkSpells
import Derived.BigGuardPart
import Derived.RegionTactic
import Derived.Deep.RegionHeld3
import Derived.Lib.Hide
import Derived.Deep.MidRow
import Derived.Below
import Derived.Deep.RegionWith
import Derived.Deep.OwnRows
import Derived.Deep.AppendLies
import Derived.Deep.RegionLaw
import Derived.Deep.CutBlock
import Derived.Deep.DeepCutAuto
import Derived.Maps.OwnSet
import Derived.Maps.Views
import Derived.Lib.LaidTab
namespace Go.Proofs.YtgdlcnngplfjnaaDoor.Co
open Go.Shelf Go.Maps Go.WideMaps Go.ChangeShapes Go.WideShapes Go.ChangeAt Go.RowKit Go.Proofs.YtgdlcnngplfjnaaDoor.Vf
set_option linter.unusedVariables false
/-- The tables of the library's that are read. -/
structure Tbs (w : World) : Prop where
  p : Lib.TabIs Tryd.prog w "internal/strconv.uint64pow10" .u64 Lib.pow10Tab
  s : Lib.TabIs Tryd.prog w "strings.asciiSpace" .u8 Lib.asciiSpaceTab
theorem var_kept {w w' : World} {nm : String} {cs : Array Value} (h : w.var? Tryd.prog nm = some cs) (hk : ∀ k, k < w.heap.size → w'.heap[k]? = w.heap[k]?) : w'.var? Tryd.prog nm = some cs := by
  unfold World.var? at h ⊢
  cases hg : Tryd.prog.globalNamed nm with
  | none => rw [hg] at h; cases h
  | some g =>
    rw [hg] at h
    simp only [Option.bind_some] at h ⊢
    rw [hk g ?_]
    · exact h
    · rcases Nat.lt_or_ge g w.heap.size with hl | hl
      · exact hl
      · rw [Array.getElem?_eq_none hl] at h
        cases h
theorem Tbs.kept {w w' : World} (h : Tbs w) (hk : ∀ k, k < w.heap.size → w'.heap[k]? = w.heap[k]?) : Tbs w' := ⟨var_kept h.p hk, var_kept h.s hk⟩
theorem Tbs.below {w w' : World} (h : Tbs w) (hb : Below w.heap.size w w') : Tbs w' := h.kept fun k hk => hb.block k hk
/-- The names as strings.Fields lays them. -/
def nmV : Array Value := (nmL.map fun l => Value.string ⟨l.toArray⟩).toArray
theorem nmV_at {c : Nat} (h : c < 41) : nmV[c]? = some (.string ⟨(nmC c).toArray⟩) := by
  unfold nmV
  rw [List.getElem?_toArray, List.getElem?_map, nmC_at h]
  rfl
set_option maxRecDepth 100000 in
theorem fields_c (w : World) (h : Tbs w) : Calls Tryd.prog 34 #[.string ⟨(([110, 111, 112, 32, 99, 111, 110, 115, 116, 32, 115, 109, 97, 108, 108, 32, 110, 117, 108, 108, 32, 103, 101, 116, 32, 115, 101, 116, 32, 100, 117, 112, 32, 100, 114, 111, 112, 32, 115, 119, 97, 112, 32, 97, 100, 100].append [32, 115, 117, 98, 32, 109, 117, 108, 32, 100, 105, 118, 32, 114, 101, 109, 32, 97, 110, 100, 32, 111, 114, 32, 120, 111, 114, 32, 115, 104, 108, 32, 115, 104, 114, 32, 117, 115, 104, 114, 32, 110, 101, 103, 32, 108, 116]).append ([32, 101, 113, 32, 115, 97, 109, 101, 32, 105, 115, 110, 117, 108, 108, 32, 106, 117, 109, 112, 32, 105, 102, 32, 99, 97, 108, 108, 32, 114, 101, 116, 32, 110, 101, 119, 32, 103, 101, 116, 102, 32, 112, 117, 116, 102].append [32, 110, 101, 119, 97, 32, 103, 101, 116, 97, 32, 112, 117, 116, 97, 32, 108, 101, 110, 32, 101, 110, 116, 101, 114, 32, 101, 120, 105, 116, 32, 115, 112, 97, 119, 110, 32, 106, 111, 105, 110, 32, 112, 114, 105, 110, 116])).toArray⟩] w fun e w' => e = .returned (.slice (some ⟨w.heap.size, 0, none⟩) 41 41) ∧ w' = w.alloc (.cells nmV 9) := by
  have hl : (⟨(([110, 111, 112, 32, 99, 111, 110, 115, 116, 32, 115, 109, 97, 108, 108, 32, 110, 117, 108, 108, 32, 103, 101, 116, 32, 115, 101, 116, 32, 100, 117, 112, 32, 100, 114, 111, 112, 32, 115, 119, 97, 112, 32, 97, 100, 100].append [32, 115, 117, 98, 32, 109, 117, 108, 32, 100, 105, 118, 32, 114, 101, 109, 32, 97, 110, 100, 32, 111, 114, 32, 120, 111, 114, 32, 115, 104, 108, 32, 115, 104, 114, 32, 117, 115, 104, 114, 32, 110, 101, 103, 32, 108, 116]).append ([32, 101, 113, 32, 115, 97, 109, 101, 32, 105, 115, 110, 117, 108, 108, 32, 106, 117, 109, 112, 32, 105, 102, 32, 99, 97, 108, 108, 32, 114, 101, 116, 32, 110, 101, 119, 32, 103, 101, 116, 102, 32, 112, 117, 116, 102].append [32, 110, 101, 119, 97, 32, 103, 101, 116, 97, 32, 112, 117, 116, 97, 32, 108, 101, 110, 32, 101, 110, 116, 101, 114, 32, 101, 120, 105, 116, 32, 115, 112, 97, 119, 110, 32, 106, 111, 105, 110, 32, 112, 114, 105, 110, 116])).toArray⟩ : ByteArray).data.toList = allN := by rfl
  refine (Tryd.strings_Fields ⟨(([110, 111, 112, 32, 99, 111, 110, 115, 116, 32, 115, 109, 97, 108, 108, 32, 110, 117, 108, 108, 32, 103, 101, 116, 32, 115, 101, 116, 32, 100, 117, 112, 32, 100, 114, 111, 112, 32, 115, 119, 97, 112, 32, 97, 100, 100].append [32, 115, 117, 98, 32, 109, 117, 108, 32, 100, 105, 118, 32, 114, 101, 109, 32, 97, 110, 100, 32, 111, 114, 32, 120, 111, 114, 32, 115, 104, 108, 32, 115, 104, 114, 32, 117, 115, 104, 114, 32, 110, 101, 103, 32, 108, 116]).append ([32, 101, 113, 32, 115, 97, 109, 101, 32, 105, 115, 110, 117, 108, 108, 32, 106, 117, 109, 112, 32, 105, 102, 32, 99, 97, 108, 108, 32, 114, 101, 116, 32, 110, 101, 119, 32, 103, 101, 116, 102, 32, 112, 117, 116, 102].append [32, 110, 101, 119, 97, 32, 103, 101, 116, 97, 32, 112, 117, 116, 97, 32, 108, 101, 110, 32, 101, 110, 116, 101, 114, 32, 101, 120, 105, 116, 32, 115, 112, 97, 119, 110, 32, 106, 111, 105, 110, 32, 112, 114, 105, 110, 116])).toArray⟩ w (by decide) (by rw [hl]; exact nmL_ascii) h.s).mono ?_
  rw [hl, nmL_fields, nmL_len]
  rintro e w' ⟨rfl, rfl⟩
  exact ⟨rfl, rfl⟩
def nameS (c : Int) : List UInt8 := if 0 ≤ c ∧ c < 41 then nmC c.toNat else []
set_option maxRecDepth 100000 in
set_option maxHeartbeats 2000000 in
theorem name_c (c : Int) (w : World) (h : Tbs w) : Calls Tryd.prog 21 #[.int .i64 c] w fun e w' => e = .returned (.string ⟨(nameS c).toArray⟩) ∧ Below w.heap.size w w' := by
  have HF := Lib.hid (fields_c w h)
  clear h
  by_cases hc : 0 ≤ c ∧ c < 41
  · have HI : Hid (∀ V, Calls Tryd.prog 25 #[.int .i64 c] V fun e w' => e = .returned (.bool true) ∧ w' = V) := Lib.hid fun V => (decide_eq_true hc) ▸ isCode_c c V
    obtain ⟨k, rfl⟩ : ∃ k : Nat, c = k := ⟨c.toNat, by omega⟩
    have hk : k < 41 := by omega
    have q := nmV_at hk
    have hn : nameS (k : Int) = nmC k := by unfold nameS; rw [if_pos hc]; rfl
    rw [hn]
    go_enter Tryd.func21, Tryd.ntmps21
    go_wp2_with (first | (go_at_call 25; refine (HI.out _).mono ?_; rintro e w2 ⟨rfl, hw⟩; obtain rfl := hw.symm) | (go_at_call 34; refine HF.out.mono ?_; rintro e w3 ⟨rfl, hw⟩))
    go_ret
    exact ⟨rfl, (Below.refl _ _).alloc (Nat.le_refl _) _⟩
  · have HI : Hid (∀ V, Calls Tryd.prog 25 #[.int .i64 c] V fun e w' => e = .returned (.bool false) ∧ w' = V) := Lib.hid fun V => (decide_eq_false hc) ▸ isCode_c c V
    have hn : nameS c = [] := if_neg hc
    rw [hn]
    go_enter Tryd.func21, Tryd.ntmps21
    go_wp2_with (first | (go_at_call 25; refine (HI.out _).mono ?_; rintro e w2 ⟨rfl, hw⟩; obtain rfl := hw.symm))
    go_ret
    exact ⟨rfl, Below.refl _ _⟩

/-! ### kinds (44), Kind (19) -/
theorem smap : Keyed Tryd.prog 9 := string_keyed Tryd.underlying9
theorem zero3 (w : World) : (zeroValue 3).run Tryd.prog w = .ok (.int .i64 0) w := by kernel_rfl
def kd : Nat → DataW Unit
  | 0 => .map []
  | k + 1 => (kd k).put (.string (nmC k)) (.lit (.int .i64 (k : Nat)))
theorem kd_map : ∀ k, IsMap (kd k)
  | 0 => ⟨_, rfl⟩
  | k + 1 => by
    obtain ⟨es, he⟩ := kd_map k
    unfold kd
    rw [he]
    exact ⟨_, rfl⟩
theorem kd_at (s : List UInt8) : ∀ k, k ≤ 41 → (Maps.has (kd k) (.string s) = match kindP s with | some c => decide (c < k) | none => false) ∧ (∀ c, kindP s = some c → c < k → (kd k).atKey (.string s) (.lit (.int .i64 0)) = .lit (.int .i64 (c : Nat))) ∧ (kindP s = none → (kd k).atKey (.string s) (.lit (.int .i64 0)) = .lit (.int .i64 0))
  | 0, _ => by
    refine ⟨?_, fun c _ h => by omega, fun _ => rfl⟩
    cases kindP s <;> rfl
  | k + 1, hk => by
    obtain ⟨h1, h2, h3⟩ := kd_at s k (by omega)
    have hkn := kindP_nm (show k < 41 by omega)
    by_cases he : s = nmC k
    · subst he
      rw [hkn]
      refine ⟨?_, fun c hc _ => ?_, fun h => by cases h⟩
      · unfold kd
        rw [has_put_same (kd_map k) (show WideAt.IsKeyLit (.string (nmC k)) from trivial)]
        simp
      · injection hc with hc
        subst hc
        unfold kd
        exact atKey_put_same (kd_map k) (show WideAt.IsKeyLit (.string (nmC k)) from trivial) _ _
    · have hne : (Lit.string s) ≠ Lit.string (nmC k) := fun q => he (by injection q)
      refine ⟨?_, fun c hc hlt => ?_, fun hn => ?_⟩
      · unfold kd
        rw [has_put_other hne, h1]
        cases hq : kindP s with
        | none => rfl
        | some c =>
          have : c ≠ k := fun q => he (by rw [← (kindP_lt hq).2, q])
          simp
          omega
      · have : c ≠ k := fun q => he (by rw [← (kindP_lt hc).2, q])
        unfold kd
        rw [atKey_put_other hne]
        exact h2 c hc (by omega)
      · unfold kd
        rw [atKey_put_other hne]
        exact h3 hn
theorem nm_size (k : Nat) : (nmC k).length ≤ 20 := by
  unfold nmC
  rw [List.getD_eq_getElem?_getD]
  have : ∀ x ∈ nmL, x.length ≤ 20 := by decide +kernel
  rcases h : nmL[k]? with _ | x
  · exact Nat.zero_le _
  · exact this x (List.mem_of_getElem? h)
theorem key_nm (k : Nat) : keyOf Tryd.prog 9 (.string ⟨(nmC k).toArray⟩) = some (.string (nmC k)) := by
  have := keyOf_string_mk (s := ⟨(nmC k).toArray⟩) Tryd.underlying9 (by have := nm_size k; simp [ByteArray.size, maxLen]; omega)
  simpa using this
set_option maxRecDepth 100000 in
set_option maxHeartbeats 2000000 in
theorem kinds_c (w : World) (h : Tbs w) : Calls Tryd.prog 44 #[] w fun e w' => e = .returned (.map (some w.heap.size)) ∧ w'.ownsMap Tryd.prog 9 (plainElem (H := Unit) Tryd.prog 3) w.heap.size 41 (kd 41) ∧ Below w.heap.size w w' := by
  have hmm := @run_makeMap Tryd.prog
  have HT := Lib.hid h
  clear h
  go_enter Tryd.func44, Tryd.ntmps44
  go_wp2_with (first | (go_at_call 34; refine (fields_c _ (HT.out.below ((Below.refl _ _).alloc (Nat.le_refl _) _))).mono ?_; rintro e w3 ⟨rfl, hw⟩))
  have HI : Hid (Bx ((w.alloc (Obj.map #[] 0)).alloc (.cells nmV 9)) (w.heap.size + 1) nmV 9 ∧ ((w.alloc (Obj.map #[] 0)).alloc (.cells nmV 9)).ownsMap Tryd.prog 9 (plainElem (H := Unit) Tryd.prog 3) w.heap.size 0 (kd 0) ∧ Below w.heap.size w ((w.alloc (Obj.map #[] 0)).alloc (.cells nmV 9))) := Lib.hid (by
    refine ⟨?_, (World.ownsMap_made _ _ _ _).alloc _, ((Below.refl _ _).alloc (Nat.le_refl _) _).alloc (by simp) _⟩
    have := Bx.new (w.alloc (Obj.map #[] 0)) nmV 9
    rw [World.size_alloc] at this
    exact this)
  go_loopw [7] (fun i wr => ∃ k : Nat, k ≤ 41 ∧ i = .int .i64 k ∧ wr.ownsMap Tryd.prog 9 (plainElem (H := Unit) Tryd.prog 3) w.heap.size k (kd k) ∧ Hid (Below w.heap.size w wr ∧ Bx wr (w.heap.size + 1) nmV 9)) (fun i _ => 41 - (intOf i).toNat)
  case atStart => exact ⟨0, Nat.zero_le _, rfl, HI.out.2.1, Lib.hid ⟨HI.out.2.2, HI.out.1⟩⟩
  case round =>
    obtain ⟨k, hk, rfl, hown, HB⟩ := hrel
    obtain ⟨s, hs⟩ : ∃ s : ByteArray, s = ⟨(nmC k).toArray⟩ := ⟨_, rfl⟩
    by_cases hlt : k < 41
    · have hcx : wr.cell? ⟨w.heap.size + 1, k, none⟩ = some (.string s) := by rw [hs]; exact (HB.out.2.cell k).trans (nmV_at hlt)
      have hkey : keyOf Tryd.prog 9 (.string s) = some (.string (nmC k)) := by rw [hs]; exact key_nm k
      clear hs
      have hlt' : (k : Int) < 41 := by omega
      go_wp2_with (first
        | (at_mapUpdate; refine wpList_mapUpdate_own _ rfl _ _ _ 88 rfl 9 3 smap Tryd.underlying88 _ w.heap.size k _ rfl hown (by unfold maxLen; omega) _ _ _ rfl rfl hkey _ [] (plainElem_int Tryd.underlying3 (WalkArith.wf_i64 (by omega))) ?_)
        | go_in)
      intro w1 hown1 hgrow1
      have R1 : w1.ownsMap Tryd.prog 9 (plainElem (H := Unit) Tryd.prog 3) w.heap.size (k + 1) (kd (k + 1)) := hown1
      have R2 : Hid (Below w.heap.size w w1 ∧ Bx w1 (w.heap.size + 1) nmV 9) := Lib.hid ⟨HB.out.1.grown hgrow1 HB.out.1.size (fun j hj => by cases hj; exact Nat.le_refl _), HB.out.2.grown hgrow1 (by simp)⟩
      clear hown1 hgrow1 hown hcx
      go_wp2
      go_roundw
      case rel => exact ⟨k + 1, by omega, by go_num, R1, R2⟩
      case measure => simp [intOf]; omega
    · have : k = 41 := by omega
      subst this
      go_wp2
      go_ret
      exact ⟨rfl, hown, HB.out.1⟩
/-- What Kind tells. -/
def kdA (s : List UInt8) : Value := match kindP s with | some c => .tuple #[.int .i64 (c : Nat), .bool true] | none => .tuple #[.int .i64 0, .bool false]
theorem kd_look (s : List UInt8) (c : Int) (h : (kd 41).atKey (.string s) (.lit (.int .i64 0)) = .lit (.int .i64 c)) : Value.tuple #[.int .i64 c, .bool (Maps.has (kd 41) (.string s))] = kdA s := by
  obtain ⟨h1, h2, h3⟩ := kd_at s 41 (Nat.le_refl _)
  rw [h1]
  unfold kdA
  cases hk : kindP s with
  | none =>
    rw [h3 hk] at h
    injection h with h
    injection h with _ h
    subst h
    rfl
  | some x =>
    have hx := (kindP_lt hk).1
    rw [h2 x hk hx] at h
    injection h with h
    injection h with _ h
    subst h
    simp [hx]
set_option maxRecDepth 100000 in
set_option maxHeartbeats 2000000 in
theorem kind_c (s : ByteArray) (hs : s.size ≤ maxLen) (w : World) (h : Tbs w) : Calls Tryd.prog 19 #[.string s] w fun e w' => e = .returned (kdA s.data.toList) ∧ Below w.heap.size w w' := by
  have HK := Lib.hid (kinds_c w h)
  have hkey : keyOf Tryd.prog 9 (.string s) = some (.string s.data.toList) := keyOf_string_mk Tryd.underlying9 hs
  clear h
  go_enter Tryd.func19, Tryd.ntmps19
  go_wp2_with (first | (go_at_call 44; refine HK.out.mono ?_; rintro e w1 ⟨rfl, hown, hb⟩) | (at_lookup; refine wpList_lookup_own_ok_int _ rfl _ _ 88 rfl 9 3 .i64 smap Tryd.underlying88 Tryd.underlying3 (zero3 _) w.heap.size 41 _ rfl hown _ _ rfl hkey ?_; intro c hat hwc))
  have HE := Lib.hid (kd_look s.data.toList c hat)
  clear hat hwc
  generalize Maps.has (kd 41) (.string s.data.toList) = bb at HE ⊢
  go_wp2
  go_ret2
  exact ⟨congrArg Ending.returned HE.out, hb⟩
end Go.Proofs.YtgdlcnngplfjnaaDoor.Co
