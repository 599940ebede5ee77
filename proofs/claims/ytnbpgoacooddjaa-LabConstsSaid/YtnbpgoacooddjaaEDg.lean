import Derived.Test.YtnbpgoacooddjaaEDf
import Derived.BigGuardPart
import Derived.Below
import Derived.Laws.Rows
import Derived.Laws.Tables
namespace Go.Proofs.Ytnbpgoacooddjaa.Fr
end Go.Proofs.Ytnbpgoacooddjaa.Fr
namespace Go.Proofs.Ytnbpgoacooddjaa.En
open Go.Proofs.Ytnbpgoacooddjaa.Fr
open Go.ChangeShapes Go.WideShapes Go.ChangeAt Go.RowKit
set_option linter.unusedVariables false
/-- An instruction as a value. -/
abbrev I7 (o d n m a c i : Int) : Value := .agg #[.int .i64 o, .int .i64 d, .int .i64 n, .int .i64 m, .int .i64 a, .int .i64 c, .int .i64 i]
/-- The op of a masked word. -/
def wnS (v : Int) : Int := if v = 2432696320 then 4 else if v = 3506438144 then 5 else if v = 4043309056 then 6 else if v = 4181721088 then 28 else if v = 4177526784 then 29 else if v = 960495616 then 30 else 0
theorem wn_c (x v : Int) (h : bits .and .u32 x 4290772992 = v) (w : World) : Calls Try.prog 101 #[.int .u32 x] w fun e w' => e = .returned (.int .i64 (wnS v)) ∧ w = w' := by
  by_cases h4 : v = 2432696320
  · subst h4
    go_enter Try.func101, Try.ntmps101
    go_wp2
    go_ret
    exact ⟨rfl, rfl⟩
  by_cases h5 : v = 3506438144
  · subst h5
    go_enter Try.func101, Try.ntmps101
    go_wp2
    go_ret
    exact ⟨rfl, rfl⟩
  by_cases h6 : v = 4043309056
  · subst h6
    go_enter Try.func101, Try.ntmps101
    go_wp2
    go_ret
    exact ⟨rfl, rfl⟩
  by_cases h28 : v = 4181721088
  · subst h28
    go_enter Try.func101, Try.ntmps101
    go_wp2
    go_ret
    exact ⟨rfl, rfl⟩
  by_cases h29 : v = 4177526784
  · subst h29
    go_enter Try.func101, Try.ntmps101
    go_wp2
    go_ret
    exact ⟨rfl, rfl⟩
  by_cases h30 : v = 960495616
  · subst h30
    go_enter Try.func101, Try.ntmps101
    go_wp2
    go_ret
    exact ⟨rfl, rfl⟩
  have e4 : (v == 2432696320) = false := by simpa using h4
  have e5 : (v == 3506438144) = false := by simpa using h5
  have e6 : (v == 4043309056) = false := by simpa using h6
  have e28 : (v == 4181721088) = false := by simpa using h28
  have e29 : (v == 4177526784) = false := by simpa using h29
  have e30 : (v == 960495616) = false := by simpa using h30
  have HS := Lib.hid (show wnS v = 0 by unfold wnS; simp only [h4, h5, h6, h28, h29, h30, if_false])
  clear h4 h5 h6 h28 h29 h30
  go_enter Try.func101, Try.ntmps101
  go_wp2
  go_ret
  exact ⟨ret_int HS.out.symm, rfl⟩
/-- The op of a masked word. -/
def of3S (v : Int) : Int := if v = 2332033024 then 7 else if v = 3405774848 then 8 else if v = 3942645760 then 9 else if v = 2315255808 then 10 else if v = 2852126720 then 11 else if v = 3388997632 then 12 else if v = 2596277248 then 15 else if v = 2596282368 then 16 else if v = 2596283392 then 17 else if v = 2596284416 then 18 else if v = 4167071744 then 31 else if v = 4162877440 then 32 else 0
theorem of3_c (x v : Int) (h : bits .and .u32 x 4292934656 = v) (w : World) : Calls Try.prog 103 #[.int .u32 x] w fun e w' => e = .returned (.int .i64 (of3S v)) ∧ w = w' := by
  by_cases h7 : v = 2332033024
  · subst h7
    go_enter Try.func103, Try.ntmps103
    go_wp2
    go_ret
    exact ⟨rfl, rfl⟩
  by_cases h8 : v = 3405774848
  · subst h8
    go_enter Try.func103, Try.ntmps103
    go_wp2
    go_ret
    exact ⟨rfl, rfl⟩
  by_cases h9 : v = 3942645760
  · subst h9
    go_enter Try.func103, Try.ntmps103
    go_wp2
    go_ret
    exact ⟨rfl, rfl⟩
  by_cases h10 : v = 2315255808
  · subst h10
    go_enter Try.func103, Try.ntmps103
    go_wp2
    go_ret
    exact ⟨rfl, rfl⟩
  by_cases h11 : v = 2852126720
  · subst h11
    go_enter Try.func103, Try.ntmps103
    go_wp2
    go_ret
    exact ⟨rfl, rfl⟩
  by_cases h12 : v = 3388997632
  · subst h12
    go_enter Try.func103, Try.ntmps103
    go_wp2
    go_ret
    exact ⟨rfl, rfl⟩
  by_cases h15 : v = 2596277248
  · subst h15
    go_enter Try.func103, Try.ntmps103
    go_wp2
    go_ret
    exact ⟨rfl, rfl⟩
  by_cases h16 : v = 2596282368
  · subst h16
    go_enter Try.func103, Try.ntmps103
    go_wp2
    go_ret
    exact ⟨rfl, rfl⟩
  by_cases h17 : v = 2596283392
  · subst h17
    go_enter Try.func103, Try.ntmps103
    go_wp2
    go_ret
    exact ⟨rfl, rfl⟩
  by_cases h18 : v = 2596284416
  · subst h18
    go_enter Try.func103, Try.ntmps103
    go_wp2
    go_ret
    exact ⟨rfl, rfl⟩
  by_cases h31 : v = 4167071744
  · subst h31
    go_enter Try.func103, Try.ntmps103
    go_wp2
    go_ret
    exact ⟨rfl, rfl⟩
  by_cases h32 : v = 4162877440
  · subst h32
    go_enter Try.func103, Try.ntmps103
    go_wp2
    go_ret
    exact ⟨rfl, rfl⟩
  have e7 : (v == 2332033024) = false := by simpa using h7
  have e8 : (v == 3405774848) = false := by simpa using h8
  have e9 : (v == 3942645760) = false := by simpa using h9
  have e10 : (v == 2315255808) = false := by simpa using h10
  have e11 : (v == 2852126720) = false := by simpa using h11
  have e12 : (v == 3388997632) = false := by simpa using h12
  have e15 : (v == 2596277248) = false := by simpa using h15
  have e16 : (v == 2596282368) = false := by simpa using h16
  have e17 : (v == 2596283392) = false := by simpa using h17
  have e18 : (v == 2596284416) = false := by simpa using h18
  have e31 : (v == 4167071744) = false := by simpa using h31
  have e32 : (v == 4162877440) = false := by simpa using h32
  have HS := Lib.hid (show of3S v = 0 by unfold of3S; simp only [h7, h8, h9, h10, h11, h12, h15, h16, h17, h18, h31, h32, if_false])
  clear h7 h8 h9 h10 h11 h12 h15 h16 h17 h18 h31 h32
  go_enter Try.func103, Try.ntmps103
  go_wp2
  go_ret
  exact ⟨ret_int HS.out.symm, rfl⟩
/-- How a number is scaled. -/
def scS (o : Int) : Int := if o = 28 ∨ o = 29 then 8 else 1
theorem scale_c (o : Int) (w : World) : Calls Try.prog 102 #[.int .i64 o] w fun e w' => e = .returned (.int .i64 (scS o)) ∧ w = w' := by
  by_cases h1 : o = 28
  · subst h1
    go_enter Try.func102, Try.ntmps102
    go_wp2
    go_ret
    exact ⟨rfl, rfl⟩
  · by_cases h2 : o = 29
    · subst h2
      go_enter Try.func102, Try.ntmps102
      go_wp2
      go_ret
      exact ⟨rfl, rfl⟩
    · have HS := Lib.hid (show scS o = 1 by unfold scS; rw [if_neg (by omega)])
      have e1 : (o == 28) = false := by simpa using h1
      have e2 : (o == 29) = false := by simpa using h2
      clear h1 h2
      go_enter Try.func102, Try.ntmps102
      go_wp2
      go_ret
      exact ⟨ret_int HS.out.symm, rfl⟩
/-- Seven zeros. -/
def z7 : Array Value := #[.int .i64 0, .int .i64 0, .int .i64 0, .int .i64 0, .int .i64 0, .int .i64 0, .int .i64 0]
theorem info23 : (Try.prog.info? 29).map (·.size) = some 7 := by kernel_rfl
theorem below_setRow {B : Nat} {a w : World} (h : Below B a w) (g : Nat) (hg : B ≤ g) (cs : Array Value) : Below B a (w.setRow g cs) :=
  ⟨h.os, h.tape, h.output, by simpa using h.size, fun k hk => by rw [setRow_other _ _ _ _ (by omega)]; exact h.block k hk⟩
theorem below_drewN {B : Nat} {a w : World} (h : Below B a w) (n : Nat) : Below B a (w.drewN n) := h.trans ⟨rfl, rfl, rfl, Nat.le_refl _, fun _ _ => rfl⟩
/-- A function that made its result's cell ends with it. -/
theorem ret_ins {fn : Func} (h : fn.results = #[.cell 2 29]) (w W : World) (tmps cs : Array Value) (hp : tmps.getD 2 undef = .pointer (some ⟨w.heap.size, 0, none⟩)) (hs : cs.size = 7)
    (hW : W.heap[w.heap.size]? = some (.cells z7 29 (0, 0))) (hB : Below w.heap.size w W) {v : Value} (hv : v = .agg cs) :
    bodyPost Try.prog fn (fun e w' => e = .returned v ∧ Below w.heap.size w w') Exit.ret ⟨tmps, []⟩ (W.setRow w.heap.size cs) :=
  bodyPost_ret (results_cell_row h _ _ w.heap.size 29 cs (0, 0) _ hp (setRow_heap _ _ _ _ _ _ hW) Try.underlying29 rfl (by rw [hs]; exact info23)) rfl ⟨by rw [hv], below_setRow hB _ (Nat.le_refl _) _⟩
theorem setRow_twice (W : World) (g : Nat) (a b : Array Value) : (W.setRow g a).setRow g b = W.setRow g b := by
  unfold World.setRow
  simp
  refine Array.ext (by simp) fun i h1 h2 => ?_
  simp only [Array.getElem_modify]
  split
  · cases W.heap[i]'(by simpa using h2) <;> rfl
  · rfl
theorem set7 (W : World) (g : Nat) (v0 v1 v2 v3 v4 v5 v6 : Value) (hW : W.heap[g]? = some (.cells z7 29 (0, 0))) :
    ((((((W.setCell ⟨g, 0, none⟩ v0).setCell ⟨g, 1, none⟩ v1).setCell ⟨g, 2, none⟩ v2).setCell ⟨g, 3, none⟩ v3).setCell ⟨g, 4, none⟩ v4).setCell ⟨g, 5, none⟩ v5).setCell ⟨g, 6, none⟩ v6 = W.setRow g #[v0, v1, v2, v3, v4, v5, v6] := by
  have h0 := fun cs => setRow_heap W g z7 cs 29 (0, 0) hW
  rw [setCell_eq_setRow W g 0 z7 29 (0, 0) v0 hW]
  rw [setCell_eq_setRow _ g 1 _ 29 (0, 0) v1 (h0 _), setRow_twice]
  rw [setCell_eq_setRow _ g 2 _ 29 (0, 0) v2 (h0 _), setRow_twice]
  rw [setCell_eq_setRow _ g 3 _ 29 (0, 0) v3 (h0 _), setRow_twice]
  rw [setCell_eq_setRow _ g 4 _ 29 (0, 0) v4 (h0 _), setRow_twice]
  rw [setCell_eq_setRow _ g 5 _ 29 (0, 0) v5 (h0 _), setRow_twice]
  rw [setCell_eq_setRow _ g 6 _ 29 (0, 0) v6 (h0 _), setRow_twice]
  rfl
theorem ret7 {fn : Func} (h : fn.results = #[.cell 2 29]) (w W : World) (tmps : Array Value) (v0 v1 v2 v3 v4 v5 v6 : Value) (hp : tmps.getD 2 undef = .pointer (some ⟨w.heap.size, 0, none⟩))
    (hW : W.heap[w.heap.size]? = some (.cells z7 29 (0, 0))) (hB : Below w.heap.size w W) {v : Value} (hv : v = .agg #[v0, v1, v2, v3, v4, v5, v6]) :
    bodyPost Try.prog fn (fun e w' => e = .returned v ∧ Below w.heap.size w w') Exit.ret ⟨tmps, []⟩ (((((((W.setCell ⟨w.heap.size, 0, none⟩ v0).setCell ⟨w.heap.size, 1, none⟩ v1).setCell ⟨w.heap.size, 2, none⟩ v2).setCell ⟨w.heap.size, 3, none⟩ v3).setCell ⟨w.heap.size, 4, none⟩ v4).setCell ⟨w.heap.size, 5, none⟩ v5).setCell ⟨w.heap.size, 6, none⟩ v6) := by
  rw [set7 W w.heap.size v0 v1 v2 v3 v4 v5 v6 hW]
  exact ret_ins h w W tmps _ hp rfl hW hB hv
theorem fr_n (w : World) (m : Nat) : ((w.alloc (.cells #[.int .i64 0, .int .i64 0, .int .i64 0, .int .i64 0, .int .i64 0, .int .i64 0, .int .i64 0] 29)).drewN m).heap[w.heap.size]? = some (.cells z7 29 (0, 0)) := heap_alloc_new w _
theorem fb_n (w : World) (m : Nat) : Below w.heap.size w ((w.alloc (.cells #[.int .i64 0, .int .i64 0, .int .i64 0, .int .i64 0, .int .i64 0, .int .i64 0, .int .i64 0] 29)).drewN m) := below_drewN ((Below.refl _ _).alloc (Nat.le_refl _) _) _
theorem undef_c (x : Int) (w : World) (hx : 0 ≤ x) (hx' : x < 4294967296) : Calls Try.prog 177 #[.int .u32 x] w fun e w' => e = .returned (I7 0 0 0 0 0 0 (fd x 0 16)) ∧ Below w.heap.size w w' := by
  have hr := fd_lt x 0 16 (by omega)
  have hc := fun w => fieldv x 0 16 0 16 rfl rfl (by omega) (by omega) (by omega) w hx hx'
  generalize fd x 0 16 = f at hr hc ⊢
  go_enter Try.func177, Try.ntmps177
  go_wp2_with (go_at_call 93; refine (hc _).mono ?_; rintro e w' ⟨rfl, m, rfl⟩)
  exact ret7 rfl w _ _ _ _ _ _ _ _ _ rfl (fr_n w _) (fb_n w _) rfl
end Go.Proofs.Ytnbpgoacooddjaa.En
