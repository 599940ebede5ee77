/- HeapMonitors (P1603): for any row of acts, a thread enters an object's monitor just if no other holds it, leaves it just if it holds it, and its owner and count are told so: the law returns true, with no condition on the arguments. -/
import Derived.Test.YtapcapcbndooiaaRows
import Derived.WalkKit
import Derived.ProofKit
import Derived.OpenShut
import Derived.ShutString
import Derived.ChangeOld
import Derived.Below
import Derived.ChangeSame
import Derived.Lib.Hide
import Derived.Deep.AppendLies
import Derived.WalkSmall
import Derived.Test.YtapcapcbndooiaaMonW
namespace Go.Proofs.Ytapcapcbndooiaa.heapMonitors
open Go.ChangeShapes Go.WideShapes Go.ChangeAt Go.RowKit
open Go.ChangeMaps (open_string shut_string)
set_option linter.unusedVariables false

theorem own : ownKnob Try.prog.godebug = none := by kernel_rfl
theorem laidOut : laidOutB Try.prog = true := by kernel_rfl

/-- WHAT THE WALK IS TOLD OF A SLICE OF INTEGERS THAT CAME IN: it is nil; or it leads to a row of 'cap' cells, the numbers 'zs' (the first 'len' are its elements, the rest its spare room), each fitting its kind. -/
def IsRow (k : IntKind) (w : World) (a : Option Addr) (len cap : Nat) (zs : List Int) : Prop :=
  (a = none ∧ len = 0 ∧ cap = 0 ∧ zs = []) ∨
  ∃ x, a = some x ∧ len ≤ cap ∧ cap ≤ maxLen ∧ zs.length = cap ∧ (∀ i, i < zs.length → w.cell? (x.add i) = some (.int k (zs.getD i 0))) ∧ ∀ n ∈ zs, (Lit.int k n).wf = true

theorem blk_lt {w : World} {b o : Nat} {v : Value} (h : w.cell? ⟨b, o, none⟩ = some v) : b < w.heap.size := by
  rcases Nat.lt_or_ge b w.heap.size with k | k
  · exact k
  · have e : w.heap[b]? = none := Array.getElem?_eq_none k
    simp [World.cell?, e] at h
set_option maxRecDepth 1000000 in
set_option maxHeartbeats 4000000 in
theorem monitors_0 (a : Option Addr) (cap : Nat) (w : World) :
    Calls Try.prog 10 #[.slice a 0 cap] w fun e w' => e = .returned (.bool true) ∧ Below w.heap.size w w' := by
  go_enter Try.func10, Try.ntmps10
  go_wp2_with (first | (go_at_call 42; refine (known_h _).mono ?_; rintro e w1 ⟨rfl, hb1⟩; have HB1 := Lib.hid hb1; clear hb1) | (go_at_call 43; refine (new_p 100 _ (by omega) (by omega)).mono ?_; rintro e w2 ⟨h, rfl, hw, hh, c0, c1, c2, z1, z2, hb2⟩; have HB2 := Lib.hid (HB1.out.trans (hb2.mono HB1.out.size)); have hwh : w.heap.size ≤ h := Nat.le_trans HB1.out.size hw; clear hb2))
  refine (object_m h _ hh c0 c1 c2 z1 z2).mono ?_
  rintro e w3 ⟨ob, x, cp, rfl, hb3, hm⟩
  have HB3 := Lib.hid (HB2.out.trans (hb3.mono hwh))
  have HM0 := Lib.hid hm
  clear hb3 hm HB2 c0 c1 c2 z1 z2 hh
  go_wp2
  go_loopw [2, 5, 6, 7] (fun r o n i wr => r = .bool false ∧ o = .int .i64 (-1) ∧ n = .int .i64 0 ∧ i = .int .i64 0 ∧ Hid (Mon wr h h ob x cp 0 0) ∧ Hid (Below w.heap.size w wr)) (fun _ _ _ i _ => 0)
  case atStart => exact ⟨rfl, rfl, rfl, rfl, HM0, HB3⟩
  case round =>
    obtain ⟨rfl, rfl, rfl, rfl, HM, HBr⟩ := hrel
    obtain ⟨_, e1, _⟩ := HM.out
    go_wp2_with (first | (go_at_call 48; refine (enter_2 h ob cp 0 _ e1).mono ?_; rintro e w' ⟨rfl, rfl⟩) | (go_at_call 49; refine (exit_none h ob cp 0 _ e1).mono ?_; rintro e w' ⟨rfl, rfl⟩))
    refine bodyPost_ret (v := .bool true) (by simp [results, Try.results10, go_sem]) rfl ⟨rfl, HBr.out⟩
set_option maxRecDepth 1000000 in
set_option maxHeartbeats 4000000 in
theorem monitors_not (a : Option Addr) (len cap : Nat) (w : World) (hl : len ≤ maxLen) (h : 300 < len) :
    Calls Try.prog 10 #[.slice a len cap] w fun e w' => e = .returned (.bool true) ∧ Below w.heap.size w w' := by
  unfold maxLen at hl
  have e3 : (300 : Int) < (len : Int) := by omega
  go_enter Try.func10, Try.ntmps10
  go_wp2_with (first | (go_at_call 42; refine (known_h _).mono ?_; rintro e w1 ⟨rfl, hb1⟩; have HB1 := Lib.hid hb1; clear hb1))
  refine bodyPost_ret (v := .bool true) (by simp [results, Try.results10, go_sem]) rfl ⟨rfl, HB1.out⟩
theorem walk (a0 : Option Addr) (len0 cap0 : Nat) (z0 : List Int) (w : World) (w0 : IsRow .i64 w a0 len0 cap0 z0) :
    Calls Try.prog 10 #[.slice a0 len0 cap0] w fun e w' => e = .returned (.bool true) ∧ Below w.heap.size w w' := by
  by_cases h : 300 < len0
  · have hl : len0 ≤ maxLen := by
      rcases w0 with ⟨_, h1, _, _⟩ | ⟨x, _, hlc, hcm, _⟩
      · rw [h1]; unfold maxLen; omega
      · omega
    exact monitors_not a0 len0 cap0 w hl h
  · rcases w0 with ⟨rfl, rfl, rfl, rfl⟩ | ⟨x, rfl, hlc, hcm, hzl, hcell, hwf⟩
    · exact monitors_0 none 0 w
    · by_cases hz : 0 < z0.length
      · obtain ⟨b, off, rfl, hc⟩ := ints_at hcell hz
        have hb : b < w.heap.size := blk_lt (hc 0 hz)
        exact monitors_c b off len0 cap0 z0 w (by omega) (by omega) hb (fun j hj => hc j (by omega))
      · have h0 : len0 = 0 := by omega
        subst h0
        exact monitors_0 _ _ w

/-! ### THE ROW's STEP: WRITTEN OUT: LEAVE IT -/
set_option maxRecDepth 100000 in
theorem lifted (os : Os) (started : os.Started) (H : Type) (enc : TypeId × Value → H) :
    ReturnsInHanded {} Try.checked os 10 .any (Rows.heapMonitorsSpec.pre6 enc Try.prog Try.f10 Rows.heapMonitorsRow.domain false) (Rows.heapMonitorsSpec.post enc Try.prog Try.f10 false true false false) := by
  refine returnsInHanded_of_change (C := Try.checked) own started (by kernel_rfl) Try.func10
    (ChangeSpec.witness6 (enc := enc) (C := Try.checked) false ⟨#[], #[.slice none 0 0], []⟩ 8 (by kernel_rfl) (by kernel_rfl) (by kernel_rfl) (by kernel_rfl)) ?_
  intro W base args ds gs before hval0 hW hcnd _
  have hval : ∀ (j : Nat) t v, Try.f10.params[j]? = some t → args[j]? = some v → Value.okWide Try.prog W .any base t v := hval0
  have hW' := hW
  obtain ⟨p, q, hA0, hV, rfl, hfz, hnd⟩ := hW
  have hA : DataW.TrodAll enc Try.prog W 0 (fun _ => true) true Try.f10.params.toList args.toList ds p := hA0
  rw [Try.params10] at hA hval
  obtain ⟨v0, vs0, d0, ds0, p0, q0, hargs, rfl, rfl, h0, r0⟩ := trodAll_cons hA
  obtain ⟨rfl, rfl, rfl⟩ := trodAll_nil r0
  obtain rfl : args = #[v0] := by cases args; simp_all
  obtain ⟨rfl, rfl⟩ := trodVars_none hV
  obtain ⟨a0, len0, cap0, rfl⟩ := okWide_slice Try.underlying29 (hval 0 29 v0 rfl rfl)
  have k0 := h0
  have lt0 : ∀ x ∈ p0, x.block < W.heap.size := by obtain ⟨m, hm⟩ := k0; exact DataW.trod_lt m _ _ _ hm
  obtain ⟨z0, w0⟩ : ∃ zs, IsRow .i64 W a0 len0 cap0 zs := by
    obtain ⟨fuel, hf⟩ := h0
    rcases open_ints Try.underlying29 Try.underlying3 (by kernel_rfl) hf with ⟨hcs, _⟩ | ⟨x, l, c, zs, hcs, _, hl, hm, hz, _, hcell, hwz⟩
    · simp [Value.cells] at hcs
      obtain ⟨rfl, rfl, rfl⟩ := hcs
      exact ⟨[], .inl ⟨rfl, rfl, rfl, rfl⟩⟩
    · simp [Value.cells] at hcs
      obtain ⟨rfl, rfl, rfl⟩ := hcs
      exact ⟨zs, .inr ⟨_, rfl, hl, hm, by simpa using hz, hcell, hwz⟩⟩
  clear hA0 hval0
  refine (walk a0 len0 cap0 z0 W w0).mono fun e W' ⟨he, bel⟩ => ?_
  subst he
  exact ⟨_, rfl, _, _, _, [], _, [], hW', trodAll_mk1 (shut_bool Try.underlying4 _), (trodAll_cons_mk (Below.trod laidOut (by kernel_rfl) (of_decide_eq_true (by kernel_rfl)) k0 bel lt0) trodAll_mk0), rfl, bel.frame _, fun h => by cases h⟩

theorem over : Rows.heapMonitorsRow.holds Try.pinned (OpenSpec.ofChange Rows.heapMonitorsSpec) :=
  OpenClaim.holds_of_wide 10 Try.f10 rfl rfl rfl rfl rfl rfl rfl ⟨rfl, rfl, rfl, rfl, rfl⟩ rfl rfl rfl rfl rfl (by kernel_rfl) Try.func10 (by kernel_rfl)
    (of_decide_eq_true (by kernel_rfl)) (by unfold Func.isWrapper; first | (rw [if_pos (by decide +kernel)]; kernel_rfl) | (rw [if_neg (by decide +kernel)]; exact ⟨rfl, rfl⟩))
    (fun os started H enc _ => lifted os started H enc)

/-- ████ THE STATEMENT ████ -/
theorem proved : Rows.HeapMonitorsSaid := over
#print axioms proved
end Go.Proofs.Ytapcapcbndooiaa.heapMonitors
