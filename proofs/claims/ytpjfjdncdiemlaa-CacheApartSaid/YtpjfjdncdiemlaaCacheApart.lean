/- CacheApart (P2602): whatever the cache's size and whatever the pieces taken of it, pieces have no word in common, lie in the cache and begin at lines: the law returns true, with no condition on the arguments. -/
import Derived.Test.YtpjfjdncdiemlaaRows
import Derived.WalkKit
import Derived.ProofKit
import Derived.OpenShut
import Derived.ShutString
import Derived.ChangeOld
import Derived.Below
import Derived.ChangeSame
import Derived.Lib.Hide
import Derived.Deep.AppendLies
import Derived.WalkSmall
import Derived.Test.YtpjfjdncdiemlaaPcM
namespace Go.Proofs.Ytpjfjdncdiemlaa.cacheApart
open Go.ChangeShapes Go.WideShapes Go.ChangeAt Go.RowKit
open Go.ChangeMaps (open_string shut_string)
set_option linter.unusedVariables false

theorem own : ownKnob Try.prog.godebug = none := by kernel_rfl
theorem laidOut : laidOutB Try.prog = true := by kernel_rfl

/-- WHAT THE WALK IS TOLD OF A SLICE OF INTEGERS THAT CAME IN: it is nil; or it leads to a row of 'cap' cells, the numbers 'zs' (the first 'len' are its elements, the rest its spare room), each fitting its kind. -/
def IsRow (k : IntKind) (w : World) (a : Option Addr) (len cap : Nat) (zs : List Int) : Prop :=
  (a = none ∧ len = 0 ∧ cap = 0 ∧ zs = []) ∨
  ∃ x, a = some x ∧ len ≤ cap ∧ cap ≤ maxLen ∧ zs.length = cap ∧ (∀ i, i < zs.length → w.cell? (x.add i) = some (.int k (zs.getD i 0))) ∧ ∀ n ∈ zs, (Lit.int k n).wf = true

theorem blk_lt {w : World} {b o : Nat} {v : Value} (h : w.cell? ⟨b, o, none⟩ = some v) : b < w.heap.size := by
  rcases Nat.lt_or_ge b w.heap.size with k | k
  · exact k
  · have e : w.heap[b]? = none := Array.getElem?_eq_none k
    simp [World.cell?, e] at h
set_option maxRecDepth 1000000 in
set_option maxHeartbeats 4000000 in
theorem not1 (wd : Int) (a : Option Addr) (len cap : Nat) (w : World) (hl : len ≤ maxLen) (h1 : wd < 0) :
    Calls Try.prog 8 #[.int .i64 wd, .slice a len cap] w fun e w' => e = .returned (.bool true) ∧ Below w.heap.size w w' := by
  unfold maxLen at hl
  have e1 : decide (wd < 0) = true := decide_eq_true h1
  go_enter Try.func8, Try.ntmps8
  go_wp2_with (first | (go_at_call 23; refine (known26_c _).mono ?_; rintro e w1 ⟨rfl, hb1⟩; have HB1 := Lib.hid hb1; clear hb1))
  refine bodyPost_ret (v := .bool true) (by simp [results, Try.results8, go_sem]) rfl ⟨rfl, HB1.out⟩
set_option maxRecDepth 1000000 in
set_option maxHeartbeats 4000000 in
theorem not2 (wd : Int) (a : Option Addr) (len cap : Nat) (w : World) (hl : len ≤ maxLen) (h1 : 0 ≤ wd) (h2 : 65536 < wd) :
    Calls Try.prog 8 #[.int .i64 wd, .slice a len cap] w fun e w' => e = .returned (.bool true) ∧ Below w.heap.size w w' := by
  unfold maxLen at hl
  have e1 : decide (wd < 0) = false := decide_eq_false (by omega)
  have e2 : decide ((65536 : Int) < wd) = true := decide_eq_true h2
  go_enter Try.func8, Try.ntmps8
  go_wp2_with (first | (go_at_call 23; refine (known26_c _).mono ?_; rintro e w1 ⟨rfl, hb1⟩; have HB1 := Lib.hid hb1; clear hb1))
  refine bodyPost_ret (v := .bool true) (by simp [results, Try.results8, go_sem]) rfl ⟨rfl, HB1.out⟩
set_option maxRecDepth 1000000 in
set_option maxHeartbeats 4000000 in
theorem not3 (wd : Int) (a : Option Addr) (len cap : Nat) (w : World) (hl : len ≤ maxLen) (h1 : 0 ≤ wd) (h2 : wd ≤ 65536) (h3 : ¬ wd % 16 = 0) :
    Calls Try.prog 8 #[.int .i64 wd, .slice a len cap] w fun e w' => e = .returned (.bool true) ∧ Below w.heap.size w w' := by
  unfold maxLen at hl
  have e1 : decide (wd < 0) = false := decide_eq_false (by omega)
  have e2 : decide ((65536 : Int) < wd) = false := decide_eq_false (by omega)
  have e3 : ¬ wd.tmod 16 = 0 := by rw [Int.tmod_eq_emod_of_nonneg h1]; exact h3
  have e4 : (wd.tmod 16 == 0) = false := by simpa using e3
  go_enter Try.func8, Try.ntmps8
  go_wp2_with (first | (go_at_call 23; refine (known26_c _).mono ?_; rintro e w1 ⟨rfl, hb1⟩; have HB1 := Lib.hid hb1; clear hb1))
  refine bodyPost_ret (v := .bool true) (by simp [results, Try.results8, go_sem]) rfl ⟨rfl, HB1.out⟩
set_option maxRecDepth 1000000 in
set_option maxHeartbeats 4000000 in
theorem not4 (wd : Int) (a : Option Addr) (len cap : Nat) (w : World) (hl : len ≤ maxLen) (h1 : 0 ≤ wd) (h2 : wd ≤ 65536) (h3 : wd % 16 = 0) (h4 : 300 < len) :
    Calls Try.prog 8 #[.int .i64 wd, .slice a len cap] w fun e w' => e = .returned (.bool true) ∧ Below w.heap.size w w' := by
  unfold maxLen at hl
  have e1 : decide (wd < 0) = false := decide_eq_false (by omega)
  have e2 : decide ((65536 : Int) < wd) = false := decide_eq_false (by omega)
  have e3 : wd.tmod 16 = 0 := by rw [Int.tmod_eq_emod_of_nonneg h1]; exact h3
  have e4 : (300 : Int) < (len : Int) := by omega
  go_enter Try.func8, Try.ntmps8
  go_wp2_with (first | (go_at_call 23; refine (known26_c _).mono ?_; rintro e w1 ⟨rfl, hb1⟩; have HB1 := Lib.hid hb1; clear hb1))
  refine bodyPost_ret (v := .bool true) (by simp [results, Try.results8, go_sem]) rfl ⟨rfl, HB1.out⟩
set_option maxRecDepth 1000000 in
set_option maxHeartbeats 4000000 in
theorem apart26_0 (wd : Int) (a : Option Addr) (cap : Nat) (w : World) (h1 : 0 ≤ wd) (h2 : wd ≤ 65536) (h3 : wd % 16 = 0) :
    Calls Try.prog 8 #[.int .i64 wd, .slice a 0 cap] w fun e w' => e = .returned (.bool true) ∧ Below w.heap.size w w' := by
  have d1 : decide (wd < 0) = false := decide_eq_false (by omega)
  have d2 : decide ((65536 : Int) < wd) = false := decide_eq_false (by omega)
  have d3 : wd.tmod 16 = 0 := by rw [Int.tmod_eq_emod_of_nonneg h1]; exact h3
  go_enter Try.func8, Try.ntmps8
  go_wp2_with (first | (go_at_call 23; refine (known26_c _).mono ?_; rintro e w1 ⟨rfl, hb1⟩; have HB1 := Lib.hid hb1; clear hb1) | (go_at_call 24; refine (cnew_c 1048576 wd _ (by decide) h1 h2 h3).mono ?_; rintro e w2 ⟨cb, rfl, hcb, hca, hb2⟩; have HB2 := Lib.hid (HB1.out.trans (hb2.mono HB1.out.size)); clear hb2 hca HB1))
  go_loopw [7, 8] (fun en i wr => i = .int .i64 0 ∧ Hid (Below w.heap.size w wr)) (fun _ i _ => 0)
  case atStart => exact ⟨rfl, HB2⟩
  case round =>
    obtain ⟨rfl, HBr⟩ := hrel
    go_wp2
    refine bodyPost_ret (v := .bool true) (by simp [results, Try.results8, go_sem]) rfl ⟨rfl, HBr.out⟩
theorem walk (a0 : Int) (w0 : (Lit.int .i64 a0).wf = true) (a1 : Option Addr) (len1 cap1 : Nat) (z1 : List Int) (w : World) (w1 : IsRow .i64 w a1 len1 cap1 z1) :
    Calls Try.prog 8 #[.int .i64 a0, .slice a1 len1 cap1] w fun e w' => e = .returned (.bool true) ∧ Below w.heap.size w w' := by
  have hl : len1 ≤ maxLen := by
    rcases w1 with ⟨_, h1, _, _⟩ | ⟨x, _, hlc, hcm, _⟩
    · rw [h1]; unfold maxLen; omega
    · omega
  by_cases g1 : a0 < 0
  · exact not1 a0 a1 len1 cap1 w hl g1
  by_cases g2 : 65536 < a0
  · exact not2 a0 a1 len1 cap1 w hl (by omega) g2
  by_cases g3 : a0 % 16 = 0
  case neg => exact not3 a0 a1 len1 cap1 w hl (by omega) (by omega) g3
  by_cases g4 : 300 < len1
  · exact not4 a0 a1 len1 cap1 w hl (by omega) (by omega) g3 g4
  rcases w1 with ⟨rfl, rfl, rfl, rfl⟩ | ⟨x, rfl, hlc, hcm, hzl, hcell, hwf⟩
  · exact apart26_0 a0 none 0 w (by omega) (by omega) g3
  · by_cases hz : 0 < z1.length
    · obtain ⟨b, off, rfl, hc⟩ := ints_at hcell hz
      have hb : b < w.heap.size := blk_lt (hc 0 hz)
      exact apart26_c b off len1 cap1 a0 z1 w (by omega) (by omega) g3 (by omega) (by omega) hb (fun j hj => hc j (by omega))
    · obtain rfl : len1 = 0 := by omega
      exact apart26_0 a0 _ _ w (by omega) (by omega) g3

/-! ### THE ROW's STEP: WRITTEN OUT: LEAVE IT -/
set_option maxRecDepth 100000 in
theorem lifted (os : Os) (started : os.Started) (H : Type) (enc : TypeId × Value → H) :
    ReturnsInHanded {} Try.checked os 8 .any (Rows.cacheApartSpec.pre6 enc Try.prog Try.f8 Rows.cacheApartRow.domain false) (Rows.cacheApartSpec.post enc Try.prog Try.f8 false true false false) := by
  refine returnsInHanded_of_change (C := Try.checked) own started (by kernel_rfl) Try.func8
    (ChangeSpec.witness6 (enc := enc) (C := Try.checked) false ⟨#[], #[.int .i64 0, .slice none 0 0], []⟩ 8 (by kernel_rfl) (by kernel_rfl) (by kernel_rfl) (by kernel_rfl)) ?_
  intro W base args ds gs before hval0 hW hcnd _
  have hval : ∀ (j : Nat) t v, Try.f8.params[j]? = some t → args[j]? = some v → Value.okWide Try.prog W .any base t v := hval0
  have hW' := hW
  obtain ⟨p, q, hA0, hV, rfl, hfz, hnd⟩ := hW
  have hA : DataW.TrodAll enc Try.prog W 0 (fun _ => true) true Try.f8.params.toList args.toList ds p := hA0
  rw [Try.params8] at hA hval
  obtain ⟨v0, vs0, d0, ds0, p0, q0, hargs, rfl, rfl, h0, r0⟩ := trodAll_cons hA
  obtain ⟨v1, vs1, d1, ds1, p1, q1, rfl, rfl, rfl, h1, r1⟩ := trodAll_cons r0
  obtain ⟨rfl, rfl, rfl⟩ := trodAll_nil r1
  obtain rfl : args = #[v0, v1] := by cases args; simp_all
  obtain ⟨rfl, rfl⟩ := trodVars_none hV
  obtain ⟨a0, rfl, rfl, rfl, w0⟩ := open_int Try.underlying3 (hval 0 3 v0 rfl rfl) h0
  obtain ⟨a1, len1, cap1, rfl⟩ := okWide_slice Try.underlying35 (hval 1 35 v1 rfl rfl)
  have k1 := h1
  have lt1 : ∀ x ∈ p1, x.block < W.heap.size := by obtain ⟨m, hm⟩ := k1; exact DataW.trod_lt m _ _ _ hm
  obtain ⟨z1, w1⟩ : ∃ zs, IsRow .i64 W a1 len1 cap1 zs := by
    obtain ⟨fuel, hf⟩ := h1
    rcases open_ints Try.underlying35 Try.underlying3 (by kernel_rfl) hf with ⟨hcs, _⟩ | ⟨x, l, c, zs, hcs, _, hl, hm, hz, _, hcell, hwz⟩
    · simp [Value.cells] at hcs
      obtain ⟨rfl, rfl, rfl⟩ := hcs
      exact ⟨[], .inl ⟨rfl, rfl, rfl, rfl⟩⟩
    · simp [Value.cells] at hcs
      obtain ⟨rfl, rfl, rfl⟩ := hcs
      exact ⟨zs, .inr ⟨_, rfl, hl, hm, by simpa using hz, hcell, hwz⟩⟩
  clear hA0 hval0
  simp only [List.append_nil] at hW'
  refine (walk a0 w0 a1 len1 cap1 z1 W w1).mono fun e W' ⟨he, bel⟩ => ?_
  subst he
  exact ⟨_, rfl, _, _, _, [], _, [], hW', trodAll_mk1 (shut_bool Try.underlying4 _), (trodAll_cons_mk (shut_int Try.underlying3 w0) (trodAll_cons_mk (Below.trod laidOut (by kernel_rfl) (of_decide_eq_true (by kernel_rfl)) k1 bel lt1) trodAll_mk0)), rfl, bel.frame _, fun h => by cases h⟩

theorem over : Rows.cacheApartRow.holds Try.pinned (OpenSpec.ofChange Rows.cacheApartSpec) :=
  OpenClaim.holds_of_wide 8 Try.f8 rfl rfl rfl rfl rfl rfl rfl ⟨rfl, rfl, rfl, rfl, rfl⟩ rfl rfl rfl rfl rfl (by kernel_rfl) Try.func8 (by kernel_rfl)
    (of_decide_eq_true (by kernel_rfl)) (by unfold Func.isWrapper; first | (rw [if_pos (by decide +kernel)]; kernel_rfl) | (rw [if_neg (by decide +kernel)]; exact ⟨rfl, rfl⟩))
    (fun os started H enc _ => lifted os started H enc)

/-- ████ THE STATEMENT ████ -/
theorem proved : Rows.CacheApartSaid := over
#print axioms proved
end Go.Proofs.Ytpjfjdncdiemlaa.cacheApart
