/- BitsTexts (P105): for any number, count of digits and text, Hex and ReadHex answer as the document's own, and Most is the greater one: the law returns true, with no condition on the arguments. -/
import Derived.Test.YtnchckbgdekfbaaRows
import Derived.WalkKit
import Derived.ProofKit
import Derived.OpenShut
import Derived.Outline
import Derived.Lib.Hide
import Derived.Test.YtnchckbgdekfbaaKnown
import Derived.Test.YtnchckbgdekfbaaRead
import Derived.ShutString
namespace Go.Proofs.Ytnchckbgdekfbaa.bitsTexts
open Go.ChangeShapes Go.WideShapes Go.ChangeAt Go.RowKit
open Go.ChangeMaps (open_string shut_string)
set_option linter.unusedVariables false      -- a walk need not use every 'w<i>' (that an integer argument fits its kind)

theorem own : ownKnob Try.prog.godebug = none := by kernel_rfl

theorem grown_trans {a b c : World} (h1 : Grown a b) (h2 : Grown b c) : Grown a c :=
  ⟨World.keptBut_trans h1.1 h2.1, fun x => (h2.2.1 x).trans (h1.2.1 x), Nat.le_trans h1.2.2 h2.2.2⟩
theorem grown_drewN {W w : World} (h : Grown W w) : ∀ n, Grown W (w.drewN n)
  | 0 => h
  | n + 1 => Grown.drew (w' := w.drewN n) (grown_drewN h n)
theorem read_y (s : ByteArray) (w : World) (hs : s.size ≤ maxLen) (h : ReadOk s) : Calls Try.prog 25 #[.string s] w fun e w' => e = .returned (.tuple #[.int .u64 (val (chr s) s.size), .bool true]) ∧ w = w' :=
  (read_c s w hs).mono fun e w' ⟨hw, h'⟩ => ⟨by rcases h' with ⟨_, g⟩ | ⟨g, _⟩; exact g; exact absurd h g, hw⟩
theorem read_n (s : ByteArray) (w : World) (hs : s.size ≤ maxLen) (h : ¬ ReadOk s) : Calls Try.prog 25 #[.string s] w fun e w' => e = .returned (.tuple #[.int .u64 0, .bool false]) ∧ w = w' :=
  (read_c s w hs).mono fun e w' ⟨hw, h'⟩ => ⟨by rcases h' with ⟨g, _⟩ | ⟨_, g⟩; exact absurd g h; exact g, hw⟩
theorem rread_y (s : ByteArray) (w : World) (hs : s.size ≤ maxLen) (h : ReadOk s) : Calls Try.prog 26 #[.string s] w fun e w' => e = .returned (.tuple #[.int .u64 (val (chr s) s.size), .bool true]) ∧ w = w' :=
  (rread_c s w hs).mono fun e w' ⟨hw, h'⟩ => ⟨by rcases h' with ⟨_, g⟩ | ⟨g, _⟩; exact g; exact absurd h g, hw⟩
theorem rread_n (s : ByteArray) (w : World) (hs : s.size ≤ maxLen) (h : ¬ ReadOk s) : Calls Try.prog 26 #[.string s] w fun e w' => e = .returned (.tuple #[.int .u64 0, .bool false]) ∧ w = w' :=
  (rread_c s w hs).mono fun e w' ⟨hw, h'⟩ => ⟨by rcases h' with ⟨g, _⟩ | ⟨_, g⟩; exact absurd g h; exact g, hw⟩
theorem clamp_range (d : Int) : 1 ≤ clamp d ∧ clamp d ≤ 16 := by constructor <;> (unfold clamp; repeat' split) <;> omega
theorem readhex_c (v : Int) (d : Int) (k : Nat) (w : World) (h : 0 ≤ v) (h' : v < 18446744073709551616) (hk : HexIs v (clamp d) k) : Calls Try.prog 25 #[.string ⟨(hexL v k).toArray⟩] w fun e w' => e = .returned (.tuple #[.int .u64 v, .bool true]) ∧ w = w' := by
  have hr := readOk_hexL v (clamp d) k (clamp_range d).1 (clamp_range d).2 h h' hk
  have hs : (⟨(hexL v k).toArray⟩ : ByteArray).size = k := by simp [ByteArray.size, hexL_length]
  refine (read_y _ w (by have := hr.1.2.1; unfold maxLen; omega) hr.1).mono fun e w' ⟨he, hw⟩ => ⟨?_, hw⟩
  rw [he, hs, hr.2]
theorem most_c (a b : Int) (w : World) : Calls Try.prog 29 #[.int .i64 a, .int .i64 b] w fun e w' => e = .returned (.int .i64 (if a < b then b else a)) ∧ w = w' := by
  by_cases h : a < b
  · rw [if_pos h]
    go_enter Try.func29, Try.ntmps29
    go_wp2
    go_ret
    exact ⟨rfl, rfl⟩
  · rw [if_neg h]
    go_enter Try.func29, Try.ntmps29
    go_wp2
    go_ret
    exact ⟨rfl, rfl⟩
theorem mostu_c (a b : Int) (w : World) : Calls Try.prog 30 #[.int .u64 a, .int .u64 b] w fun e w' => e = .returned (.int .u64 (if a < b then b else a)) ∧ w = w' := by
  by_cases h : a < b
  · rw [if_pos h]
    go_enter Try.func30, Try.ntmps30
    go_wp2
    go_ret
    exact ⟨rfl, rfl⟩
  · rw [if_neg h]
    go_enter Try.func30, Try.ntmps30
    go_wp2
    go_ret
    exact ⟨rfl, rfl⟩
/-! ### STEP 1: THE WALK: the Go text returns true. 'Grown w w'': the world has at most new blocks (Derived/RowKit3.lean). Part the cases AHEAD of 'go_enter' where a test parts the walk; take each callee by a contract of your own. -/
set_option maxHeartbeats 2000000 in
theorem walk (a0 : Int) (a1 : Int) (a2 : ByteArray) (a3 : Int) (a4 : Int) (w0 : (Lit.int .u64 a0).wf = true) (w1 : (Lit.int .i64 a1).wf = true) (w2 : a2.size ≤ maxLen) (w3 : (Lit.int .i64 a3).wf = true) (w4 : (Lit.int .i64 a4).wf = true) (w : World) :
    Calls Try.prog 5 #[.int .u64 a0, .int .i64 a1, .string a2, .int .i64 a3, .int .i64 a4] w fun e w' => e = .returned (.bool true) ∧ Grown w w' := by
  obtain ⟨b01, b02⟩ : 0 ≤ a0 ∧ a0 < 18446744073709551616 := by simp [Lit.wf, IntKind.min, IntKind.max, IntKind.signed, IntKind.bits] at w0; omega
  clear w0 w1 w3 w4
  have hua : IntKind.u64.wrap a3 = a3 % 18446744073709551616 := IntKind.wrap_u64 a3
  have hub : IntKind.u64.wrap a4 = a4 % 18446744073709551616 := IntKind.wrap_u64 a4
  obtain ⟨ua, hua', ha1, ha2⟩ : ∃ ua : Int, a3 % 18446744073709551616 = ua ∧ 0 ≤ ua ∧ ua < 18446744073709551616 := ⟨_, rfl, by omega, by omega⟩
  obtain ⟨ub, hub', hb1, hb2⟩ : ∃ ub : Int, a4 % 18446744073709551616 = ub ∧ 0 ≤ ub ∧ ub < 18446744073709551616 := ⟨_, rfl, by omega, by omega⟩
  rw [hua'] at hua
  rw [hub'] at hub
  clear hua' hub'
  by_cases hlen : (1000 : Int) < (a2.size : Int)
  · go_enter Try.func5, Try.ntmps5
    go_wp2_with (go_at_call 8; refine (known_c _).mono ?_; rintro e w' ⟨rfl, hG⟩)
    go_ret
    exact ⟨rfl, hG⟩
  · by_cases hr : ReadOk a2
    · have HR := Lib.hid hr
      clear hr
      go_enter Try.func5, Try.ntmps5
      go_wp2_with (first | (go_at_call 8; refine (known_c _).mono ?_; rintro e w' ⟨rfl, hG⟩) | (go_at_call 25; refine (read_y _ _ w2 HR.out).mono ?_; rintro e w' ⟨rfl, rfl⟩) | (go_at_call 26; refine (rread_y _ _ w2 HR.out).mono ?_; rintro e w' ⟨rfl, rfl⟩) | (go_at_call 27; refine (hex_c _ _ _ (by omega) (by omega)).mono ?_; rintro e w' ⟨k, hk, rfl, hG1⟩) | (go_at_call 28; refine (rhex_c _ _ _ (by omega) (by omega)).mono ?_; rintro e w' ⟨l, hl, rfl, hG2⟩; obtain rfl := hk.uniq hl) | (go_at_call 29; refine (most_c _ _ _).mono ?_; rintro e w' ⟨rfl, rfl⟩) | (go_at_call 30; refine (mostu_c _ _ _).mono ?_; rintro e w' ⟨rfl, rfl⟩))
      all_goals (go_ret; exact ⟨ret_bool (by first | rfl | (simp; omega)), grown_trans (grown_trans hG hG1) hG2⟩)
    · have HR := Lib.hid hr
      clear hr
      go_enter Try.func5, Try.ntmps5
      go_wp2_with (first | (go_at_call 8; refine (known_c _).mono ?_; rintro e w' ⟨rfl, hG⟩) | (go_at_call 25; refine (read_n _ _ w2 HR.out).mono ?_; rintro e w' ⟨rfl, rfl⟩) | (go_at_call 26; refine (rread_n _ _ w2 HR.out).mono ?_; rintro e w' ⟨rfl, rfl⟩) | (go_at_call 27; refine (hex_c _ _ _ (by omega) (by omega)).mono ?_; rintro e w' ⟨k, hk, rfl, hG1⟩) | (go_at_call 28; refine (rhex_c _ _ _ (by omega) (by omega)).mono ?_; rintro e w' ⟨l, hl, rfl, hG2⟩; obtain rfl := hk.uniq hl) | (go_at_call 29; refine (most_c _ _ _).mono ?_; rintro e w' ⟨rfl, rfl⟩) | (go_at_call 30; refine (mostu_c _ _ _).mono ?_; rintro e w' ⟨rfl, rfl⟩))
      all_goals (go_ret; exact ⟨ret_bool (by first | rfl | (simp; omega)), grown_trans (grown_trans hG hG1) hG2⟩)

/-! ### THE ROW's STEP: WRITTEN OUT: LEAVE IT -/
set_option maxRecDepth 100000 in
theorem lifted (os : Os) (started : os.Started) (H : Type) (enc : TypeId × Value → H) :
    ReturnsInHanded {} Try.checked os 5 .any (Rows.bitsTextsSpec.pre6 enc Try.prog Try.f5 Rows.bitsTextsRow.domain false) (Rows.bitsTextsSpec.post enc Try.prog Try.f5 false true false false) := by
  refine returnsInHanded_of_change (C := Try.checked) own started (by kernel_rfl) Try.func5
    (ChangeSpec.witness6 (enc := enc) (C := Try.checked) false ⟨#[], #[.int .u64 0, .int .i64 0, .string ByteArray.empty, .int .i64 0, .int .i64 0], []⟩ 8 (by kernel_rfl) (by kernel_rfl) (by kernel_rfl) (by kernel_rfl)) ?_
  intro W base args ds gs before hval0 hW hcnd _
  have hval : ∀ (j : Nat) t v, Try.f5.params[j]? = some t → args[j]? = some v → Value.okWide Try.prog W .any base t v := hval0
  have hW' := hW
  obtain ⟨p, q, hA0, hV, rfl, hfz, hnd⟩ := hW
  have hA : DataW.TrodAll enc Try.prog W 0 (fun _ => true) true Try.f5.params.toList args.toList ds p := hA0
  rw [Try.params5] at hA hval
  obtain ⟨v0, vs0, d0, ds0, p0, q0, hargs, rfl, rfl, h0, r0⟩ := trodAll_cons hA
  obtain ⟨v1, vs1, d1, ds1, p1, q1, rfl, rfl, rfl, h1, r1⟩ := trodAll_cons r0
  obtain ⟨v2, vs2, d2, ds2, p2, q2, rfl, rfl, rfl, h2, r2⟩ := trodAll_cons r1
  obtain ⟨v3, vs3, d3, ds3, p3, q3, rfl, rfl, rfl, h3, r3⟩ := trodAll_cons r2
  obtain ⟨v4, vs4, d4, ds4, p4, q4, rfl, rfl, rfl, h4, r4⟩ := trodAll_cons r3
  obtain ⟨rfl, rfl, rfl⟩ := trodAll_nil r4
  obtain rfl : args = #[v0, v1, v2, v3, v4] := by cases args; simp_all
  obtain ⟨rfl, rfl⟩ := trodVars_none hV
  obtain ⟨a0, rfl, rfl, rfl, w0⟩ := open_int Try.underlying23 (hval 0 23 v0 rfl rfl) h0
  obtain ⟨a1, rfl, rfl, rfl, w1⟩ := open_int Try.underlying3 (hval 1 3 v1 rfl rfl) h1
  obtain ⟨a2, rfl, rfl, rfl, w2⟩ := open_string Try.underlying9 (hval 2 9 v2 rfl rfl) h2
  obtain ⟨a3, rfl, rfl, rfl, w3⟩ := open_int Try.underlying2 (hval 3 2 v3 rfl rfl) h3
  obtain ⟨a4, rfl, rfl, rfl, w4⟩ := open_int Try.underlying2 (hval 4 2 v4 rfl rfl) h4
  clear hA0 hval0
  simp only [List.append_nil] at hW'
  refine (walk a0 a1 a2 a3 a4 w0 w1 w2 w3 w4 W).mono fun e W' ⟨he, hg⟩ => ?_
  subst he
  exact ⟨_, rfl, post_of_same (pa := []) (pv := []) hW' (fun _ _ _ => (trodAll_cons_mk (shut_bool Try.underlying4 _) trodAll_mk0)) (fun sp _ => (trodAll_cons_mk (shut_int Try.underlying23 w0) (trodAll_cons_mk (shut_int Try.underlying3 w1) (trodAll_cons_mk (shut_string Try.underlying9 w2) (trodAll_cons_mk (shut_int Try.underlying2 w3) (trodAll_cons_mk (shut_int Try.underlying2 w4) trodAll_mk0)))))) (fun _ _ => rfl) rfl
    (hg.frame _) hg.2.1 (ok_one (by kernel_rfl) rfl (okWide_bool_mk Try.underlying4 _))⟩

theorem over : Rows.bitsTextsRow.holds Try.pinned (OpenSpec.ofChange Rows.bitsTextsSpec) :=
  OpenClaim.holds_of_wide 5 Try.f5 rfl rfl rfl rfl rfl rfl rfl ⟨rfl, rfl, rfl, rfl, rfl⟩ rfl rfl rfl rfl rfl (by kernel_rfl) Try.func5 (by kernel_rfl)
    (of_decide_eq_true (by kernel_rfl)) (by unfold Func.isWrapper; first | (rw [if_pos (by decide +kernel)]; kernel_rfl) | (rw [if_neg (by decide +kernel)]; exact ⟨rfl, rfl⟩))
    (fun os started H enc _ => lifted os started H enc)

/-- ████ THE STATEMENT ████ -/
theorem proved : Rows.BitsTextsSaid :=
  over
#print axioms proved
end Go.Proofs.Ytnchckbgdekfbaa.bitsTexts
