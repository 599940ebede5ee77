import Derived.Test.YtnbpgoacooddjaaEDg
namespace Go.Proofs.Ytnbpgoacooddjaa.Fr
end Go.Proofs.Ytnbpgoacooddjaa.Fr
namespace Go.Proofs.Ytnbpgoacooddjaa.En
open Go.Proofs.Ytnbpgoacooddjaa.Fr
open Go.ChangeShapes Go.WideShapes Go.ChangeAt Go.RowKit
set_option linter.unusedVariables false
theorem fr_0 (w : World) : (w.alloc (.cells #[.int .i64 0, .int .i64 0, .int .i64 0, .int .i64 0, .int .i64 0, .int .i64 0, .int .i64 0] 29)).heap[w.heap.size]? = some (.cells z7 29 (0, 0)) := heap_alloc_new w _
theorem fb_0 (w : World) : Below w.heap.size w (w.alloc (.cells #[.int .i64 0, .int .i64 0, .int .i64 0, .int .i64 0, .int .i64 0, .int .i64 0, .int .i64 0] 29)) := (Below.refl _ _).alloc (Nat.le_refl _) _
theorem fr_b (w W : World) (hB : Below (w.alloc (.cells #[.int .i64 0, .int .i64 0, .int .i64 0, .int .i64 0, .int .i64 0, .int .i64 0, .int .i64 0] 29)).heap.size (w.alloc (.cells #[.int .i64 0, .int .i64 0, .int .i64 0, .int .i64 0, .int .i64 0, .int .i64 0, .int .i64 0] 29)) W) :
    W.heap[w.heap.size]? = some (.cells z7 29 (0, 0)) ∧ Below w.heap.size w W :=
  ⟨(hB.block w.heap.size (by simp)).trans (heap_alloc_new w _), ((Below.refl _ _).alloc (Nat.le_refl _) _).trans (hB.mono (by simp))⟩
theorem ret7a {fn : Func} (h : fn.results = #[.cell 2 29]) (w : World) (tmps cs : Array Value) (hp : tmps.getD 2 undef = .pointer (some ⟨w.heap.size, 0, none⟩)) (hs : cs.size = 7) {v : Value} (hv : v = .agg cs) :
    bodyPost Try.prog fn (fun e w' => e = .returned v ∧ Below w.heap.size w w') Exit.ret ⟨tmps, []⟩ (w.alloc (.cells cs 29)) :=
  bodyPost_ret (results_cell_row h _ _ w.heap.size 29 cs (0, 0) _ hp (heap_alloc_new _ _) Try.underlying29 rfl (by rw [hs]; exact info23)) rfl ⟨by rw [hv], (Below.refl _ _).alloc (Nat.le_refl _) _⟩
theorem fr_k (w W : World) (hB : Below (w.alloc (.cells #[.int .i64 0, .int .i64 0, .int .i64 0, .int .i64 0, .int .i64 0, .int .i64 0, .int .i64 0] 29)).heap.size (w.alloc (.cells #[.int .i64 0, .int .i64 0, .int .i64 0, .int .i64 0, .int .i64 0, .int .i64 0, .int .i64 0] 29)) W) : W.cell? ⟨w.heap.size, 0, none⟩ = some (.int .i64 0) ∧ W.frozen? ⟨w.heap.size, 0, none⟩ = false ∧ W.cell? ⟨w.heap.size, 1, none⟩ = some (.int .i64 0) ∧ W.frozen? ⟨w.heap.size, 1, none⟩ = false ∧ W.cell? ⟨w.heap.size, 2, none⟩ = some (.int .i64 0) ∧ W.frozen? ⟨w.heap.size, 2, none⟩ = false ∧ W.cell? ⟨w.heap.size, 3, none⟩ = some (.int .i64 0) ∧ W.frozen? ⟨w.heap.size, 3, none⟩ = false ∧ W.cell? ⟨w.heap.size, 4, none⟩ = some (.int .i64 0) ∧ W.frozen? ⟨w.heap.size, 4, none⟩ = false ∧ W.cell? ⟨w.heap.size, 5, none⟩ = some (.int .i64 0) ∧ W.frozen? ⟨w.heap.size, 5, none⟩ = false ∧ W.cell? ⟨w.heap.size, 6, none⟩ = some (.int .i64 0) ∧ W.frozen? ⟨w.heap.size, 6, none⟩ = false := by
  obtain ⟨hs, _⟩ := fr_b w W hB
  refine ⟨?_, ?_, ?_, ?_, ?_, ?_, ?_, ?_, ?_, ?_, ?_, ?_, ?_, ?_⟩
  all_goals (first | (unfold World.cell?; simp only [hs]; rfl) | (unfold World.frozen?; simp only [hs]; rfl))
def fewS (x a b c : Int) : Value := if a = 3592355840 then I7 25 0 (fd x 5 5) 0 0 0 0 else if a = 3594452992 then I7 26 0 (fd x 5 5) 0 0 0 0 else if a = 3596550144 then I7 27 0 (fd x 5 5) 0 0 0 0 else if b = 3370122240 then I7 33 (fd x 0 5) (fd x 5 5) 0 0 0 0 else if b = 3365927936 then I7 34 (fd x 0 5) (fd x 5 5) 0 0 0 0 else if b = 3361700864 then I7 35 (fd x 0 5) (fd x 5 5) 0 0 0 0 else if c = 3574299424 then I7 40 0 (fd x 0 5) 0 0 0 0 else if c = 3574297888 then I7 41 0 (fd x 0 5) 0 0 0 0 else if x = 3573751839 then I7 1 0 0 0 0 0 0 else if x = 3573758911 then I7 37 0 0 0 0 0 0 else if x = 3573758399 then I7 37 0 0 0 0 0 1 else if x = 3573758655 then I7 37 0 0 0 0 0 2 else if x = 3573758879 then I7 38 0 0 0 0 0 0 else if x = 3573759967 then I7 39 0 0 0 0 0 0 else I7 0 0 0 0 0 0 (fd x 0 16)
theorem few_0 (x a : Int) (w : World) (hx : 0 ≤ x) (hx' : x < 4294967296) (ha : bits .and .u32 x 4294966303 = a)  (h : a = 3592355840) : Calls Try.prog 104 #[.int .u32 x] w fun e w' => e = .returned (I7 25 0 (fd x 5 5) 0 0 0 0) ∧ Below w.heap.size w w' := by
  subst h
  have hn := fun w => n_c x w hx hx'
  generalize fd x 5 5 = n at hn ⊢
  go_enter Try.func104, Try.ntmps104
  go_wp2_with (go_at_call 99; refine (hn _).mono ?_; rintro e w' ⟨rfl, m, rfl⟩)
  exact ret7 rfl w _ _ _ _ _ _ _ _ _ rfl (fr_n w _) (fb_n w _) rfl
theorem few_1 (x a : Int) (w : World) (hx : 0 ≤ x) (hx' : x < 4294967296) (ha : bits .and .u32 x 4294966303 = a) (e0 : (a == 3592355840) = false) (h : a = 3594452992) : Calls Try.prog 104 #[.int .u32 x] w fun e w' => e = .returned (I7 26 0 (fd x 5 5) 0 0 0 0) ∧ Below w.heap.size w w' := by
  subst h
  have hn := fun w => n_c x w hx hx'
  generalize fd x 5 5 = n at hn ⊢
  go_enter Try.func104, Try.ntmps104
  go_wp2_with (go_at_call 99; refine (hn _).mono ?_; rintro e w' ⟨rfl, m, rfl⟩)
  exact ret7 rfl w _ _ _ _ _ _ _ _ _ rfl (fr_n w _) (fb_n w _) rfl
theorem few_2 (x a : Int) (w : World) (hx : 0 ≤ x) (hx' : x < 4294967296) (ha : bits .and .u32 x 4294966303 = a) (e0 : (a == 3592355840) = false) (e1 : (a == 3594452992) = false) (h : a = 3596550144) : Calls Try.prog 104 #[.int .u32 x] w fun e w' => e = .returned (I7 27 0 (fd x 5 5) 0 0 0 0) ∧ Below w.heap.size w w' := by
  subst h
  have hn := fun w => n_c x w hx hx'
  generalize fd x 5 5 = n at hn ⊢
  go_enter Try.func104, Try.ntmps104
  go_wp2_with (go_at_call 99; refine (hn _).mono ?_; rintro e w' ⟨rfl, m, rfl⟩)
  exact ret7 rfl w _ _ _ _ _ _ _ _ _ rfl (fr_n w _) (fb_n w _) rfl
theorem few_3 (x a b : Int) (w : World) (hx : 0 ≤ x) (hx' : x < 4294967296) (ha : bits .and .u32 x 4294966303 = a) (hb : bits .and .u32 x 4294966272 = b) (e0 : (a == 3592355840) = false) (e1 : (a == 3594452992) = false) (e2 : (a == 3596550144) = false) (h : b = 3370122240) : Calls Try.prog 104 #[.int .u32 x] w fun e w' => e = .returned (I7 33 (fd x 0 5) (fd x 5 5) 0 0 0 0) ∧ Below w.heap.size w w' := by
  subst h
  have hn := fun w => n_c x w hx hx'
  have hd := fun w => d_c x w hx hx'
  generalize fd x 5 5 = n at hn ⊢
  generalize fd x 0 5 = d at hd ⊢
  go_enter Try.func104, Try.ntmps104
  go_wp2_with (first | (go_at_call 96; refine (hd _).mono ?_; rintro e w' ⟨rfl, m, rfl⟩) | (go_at_call 99; refine (hn _).mono ?_; rintro e w' ⟨rfl, m, rfl⟩))
  exact ret7 rfl w _ _ _ _ _ _ _ _ _ rfl (fr_n w _) (fb_n w _) rfl
theorem few_4 (x a b : Int) (w : World) (hx : 0 ≤ x) (hx' : x < 4294967296) (ha : bits .and .u32 x 4294966303 = a) (hb : bits .and .u32 x 4294966272 = b) (e0 : (a == 3592355840) = false) (e1 : (a == 3594452992) = false) (e2 : (a == 3596550144) = false) (e3 : (b == 3370122240) = false) (h : b = 3365927936) : Calls Try.prog 104 #[.int .u32 x] w fun e w' => e = .returned (I7 34 (fd x 0 5) (fd x 5 5) 0 0 0 0) ∧ Below w.heap.size w w' := by
  subst h
  have hn := fun w => n_c x w hx hx'
  have hd := fun w => d_c x w hx hx'
  generalize fd x 5 5 = n at hn ⊢
  generalize fd x 0 5 = d at hd ⊢
  go_enter Try.func104, Try.ntmps104
  go_wp2_with (first | (go_at_call 96; refine (hd _).mono ?_; rintro e w' ⟨rfl, m, rfl⟩) | (go_at_call 99; refine (hn _).mono ?_; rintro e w' ⟨rfl, m, rfl⟩))
  exact ret7 rfl w _ _ _ _ _ _ _ _ _ rfl (fr_n w _) (fb_n w _) rfl
theorem few_5 (x a b : Int) (w : World) (hx : 0 ≤ x) (hx' : x < 4294967296) (ha : bits .and .u32 x 4294966303 = a) (hb : bits .and .u32 x 4294966272 = b) (e0 : (a == 3592355840) = false) (e1 : (a == 3594452992) = false) (e2 : (a == 3596550144) = false) (e3 : (b == 3370122240) = false) (e4 : (b == 3365927936) = false) (h : b = 3361700864) : Calls Try.prog 104 #[.int .u32 x] w fun e w' => e = .returned (I7 35 (fd x 0 5) (fd x 5 5) 0 0 0 0) ∧ Below w.heap.size w w' := by
  subst h
  have hn := fun w => n_c x w hx hx'
  have hd := fun w => d_c x w hx hx'
  generalize fd x 5 5 = n at hn ⊢
  generalize fd x 0 5 = d at hd ⊢
  go_enter Try.func104, Try.ntmps104
  go_wp2_with (first | (go_at_call 96; refine (hd _).mono ?_; rintro e w' ⟨rfl, m, rfl⟩) | (go_at_call 99; refine (hn _).mono ?_; rintro e w' ⟨rfl, m, rfl⟩))
  exact ret7 rfl w _ _ _ _ _ _ _ _ _ rfl (fr_n w _) (fb_n w _) rfl
theorem few_6 (x a b c : Int) (w : World) (hx : 0 ≤ x) (hx' : x < 4294967296) (ha : bits .and .u32 x 4294966303 = a) (hb : bits .and .u32 x 4294966272 = b) (hc : bits .and .u32 x 4294967264 = c) (e0 : (a == 3592355840) = false) (e1 : (a == 3594452992) = false) (e2 : (a == 3596550144) = false) (e3 : (b == 3370122240) = false) (e4 : (b == 3365927936) = false) (e5 : (b == 3361700864) = false) (h : c = 3574299424) : Calls Try.prog 104 #[.int .u32 x] w fun e w' => e = .returned (I7 40 0 (fd x 0 5) 0 0 0 0) ∧ Below w.heap.size w w' := by
  subst h
  have hd := fun w => d_c x w hx hx'
  generalize fd x 0 5 = d at hd ⊢
  go_enter Try.func104, Try.ntmps104
  go_wp2_with (go_at_call 96; refine (hd _).mono ?_; rintro e w' ⟨rfl, m, rfl⟩)
  exact ret7 rfl w _ _ _ _ _ _ _ _ _ rfl (fr_n w _) (fb_n w _) rfl
theorem few_7 (x a b c : Int) (w : World) (hx : 0 ≤ x) (hx' : x < 4294967296) (ha : bits .and .u32 x 4294966303 = a) (hb : bits .and .u32 x 4294966272 = b) (hc : bits .and .u32 x 4294967264 = c) (e0 : (a == 3592355840) = false) (e1 : (a == 3594452992) = false) (e2 : (a == 3596550144) = false) (e3 : (b == 3370122240) = false) (e4 : (b == 3365927936) = false) (e5 : (b == 3361700864) = false) (e6 : (c == 3574299424) = false) (h : c = 3574297888) : Calls Try.prog 104 #[.int .u32 x] w fun e w' => e = .returned (I7 41 0 (fd x 0 5) 0 0 0 0) ∧ Below w.heap.size w w' := by
  subst h
  have hd := fun w => d_c x w hx hx'
  generalize fd x 0 5 = d at hd ⊢
  go_enter Try.func104, Try.ntmps104
  go_wp2_with (go_at_call 96; refine (hd _).mono ?_; rintro e w' ⟨rfl, m, rfl⟩)
  exact ret7 rfl w _ _ _ _ _ _ _ _ _ rfl (fr_n w _) (fb_n w _) rfl
theorem few_8 (x a b c : Int) (w : World) (hx : 0 ≤ x) (hx' : x < 4294967296) (ha : bits .and .u32 x 4294966303 = a) (hb : bits .and .u32 x 4294966272 = b) (hc : bits .and .u32 x 4294967264 = c) (e0 : (a == 3592355840) = false) (e1 : (a == 3594452992) = false) (e2 : (a == 3596550144) = false) (e3 : (b == 3370122240) = false) (e4 : (b == 3365927936) = false) (e5 : (b == 3361700864) = false) (e6 : (c == 3574299424) = false) (e7 : (c == 3574297888) = false) (h : x = 3573751839) : Calls Try.prog 104 #[.int .u32 x] w fun e w' => e = .returned (I7 1 0 0 0 0 0 0) ∧ Below w.heap.size w w' := by
  have e : (x == 3573751839) = true := by simpa using h
  clear h
  go_enter Try.func104, Try.ntmps104
  go_wp2
  exact ret7a rfl w _ _ rfl rfl rfl
theorem few_9 (x a b c : Int) (w : World) (hx : 0 ≤ x) (hx' : x < 4294967296) (ha : bits .and .u32 x 4294966303 = a) (hb : bits .and .u32 x 4294966272 = b) (hc : bits .and .u32 x 4294967264 = c) (e0 : (a == 3592355840) = false) (e1 : (a == 3594452992) = false) (e2 : (a == 3596550144) = false) (e3 : (b == 3370122240) = false) (e4 : (b == 3365927936) = false) (e5 : (b == 3361700864) = false) (e6 : (c == 3574299424) = false) (e7 : (c == 3574297888) = false) (e8 : (x == 3573751839) = false) (h : x = 3573758911) : Calls Try.prog 104 #[.int .u32 x] w fun e w' => e = .returned (I7 37 0 0 0 0 0 0) ∧ Below w.heap.size w w' := by
  have e : (x == 3573758911) = true := by simpa using h
  clear h
  go_enter Try.func104, Try.ntmps104
  go_wp2
  exact ret7a rfl w _ _ rfl rfl rfl
theorem few_10 (x a b c : Int) (w : World) (hx : 0 ≤ x) (hx' : x < 4294967296) (ha : bits .and .u32 x 4294966303 = a) (hb : bits .and .u32 x 4294966272 = b) (hc : bits .and .u32 x 4294967264 = c) (e0 : (a == 3592355840) = false) (e1 : (a == 3594452992) = false) (e2 : (a == 3596550144) = false) (e3 : (b == 3370122240) = false) (e4 : (b == 3365927936) = false) (e5 : (b == 3361700864) = false) (e6 : (c == 3574299424) = false) (e7 : (c == 3574297888) = false) (e8 : (x == 3573751839) = false) (e9 : (x == 3573758911) = false) (h : x = 3573758399) : Calls Try.prog 104 #[.int .u32 x] w fun e w' => e = .returned (I7 37 0 0 0 0 0 1) ∧ Below w.heap.size w w' := by
  have e : (x == 3573758399) = true := by simpa using h
  clear h
  go_enter Try.func104, Try.ntmps104
  go_wp2
  exact ret7a rfl w _ _ rfl rfl rfl
theorem few_11 (x a b c : Int) (w : World) (hx : 0 ≤ x) (hx' : x < 4294967296) (ha : bits .and .u32 x 4294966303 = a) (hb : bits .and .u32 x 4294966272 = b) (hc : bits .and .u32 x 4294967264 = c) (e0 : (a == 3592355840) = false) (e1 : (a == 3594452992) = false) (e2 : (a == 3596550144) = false) (e3 : (b == 3370122240) = false) (e4 : (b == 3365927936) = false) (e5 : (b == 3361700864) = false) (e6 : (c == 3574299424) = false) (e7 : (c == 3574297888) = false) (e8 : (x == 3573751839) = false) (e9 : (x == 3573758911) = false) (e10 : (x == 3573758399) = false) (h : x = 3573758655) : Calls Try.prog 104 #[.int .u32 x] w fun e w' => e = .returned (I7 37 0 0 0 0 0 2) ∧ Below w.heap.size w w' := by
  have e : (x == 3573758655) = true := by simpa using h
  clear h
  go_enter Try.func104, Try.ntmps104
  go_wp2
  exact ret7a rfl w _ _ rfl rfl rfl
theorem few_12 (x a b c : Int) (w : World) (hx : 0 ≤ x) (hx' : x < 4294967296) (ha : bits .and .u32 x 4294966303 = a) (hb : bits .and .u32 x 4294966272 = b) (hc : bits .and .u32 x 4294967264 = c) (e0 : (a == 3592355840) = false) (e1 : (a == 3594452992) = false) (e2 : (a == 3596550144) = false) (e3 : (b == 3370122240) = false) (e4 : (b == 3365927936) = false) (e5 : (b == 3361700864) = false) (e6 : (c == 3574299424) = false) (e7 : (c == 3574297888) = false) (e8 : (x == 3573751839) = false) (e9 : (x == 3573758911) = false) (e10 : (x == 3573758399) = false) (e11 : (x == 3573758655) = false) (h : x = 3573758879) : Calls Try.prog 104 #[.int .u32 x] w fun e w' => e = .returned (I7 38 0 0 0 0 0 0) ∧ Below w.heap.size w w' := by
  have e : (x == 3573758879) = true := by simpa using h
  clear h
  go_enter Try.func104, Try.ntmps104
  go_wp2
  exact ret7a rfl w _ _ rfl rfl rfl
theorem few_13 (x a b c : Int) (w : World) (hx : 0 ≤ x) (hx' : x < 4294967296) (ha : bits .and .u32 x 4294966303 = a) (hb : bits .and .u32 x 4294966272 = b) (hc : bits .and .u32 x 4294967264 = c) (e0 : (a == 3592355840) = false) (e1 : (a == 3594452992) = false) (e2 : (a == 3596550144) = false) (e3 : (b == 3370122240) = false) (e4 : (b == 3365927936) = false) (e5 : (b == 3361700864) = false) (e6 : (c == 3574299424) = false) (e7 : (c == 3574297888) = false) (e8 : (x == 3573751839) = false) (e9 : (x == 3573758911) = false) (e10 : (x == 3573758399) = false) (e11 : (x == 3573758655) = false) (e12 : (x == 3573758879) = false) (h : x = 3573759967) : Calls Try.prog 104 #[.int .u32 x] w fun e w' => e = .returned (I7 39 0 0 0 0 0 0) ∧ Below w.heap.size w w' := by
  have e : (x == 3573759967) = true := by simpa using h
  clear h
  go_enter Try.func104, Try.ntmps104
  go_wp2
  exact ret7a rfl w _ _ rfl rfl rfl
theorem few_u (x a b c : Int) (w : World) (hx : 0 ≤ x) (hx' : x < 4294967296) (ha : bits .and .u32 x 4294966303 = a) (hb : bits .and .u32 x 4294966272 = b) (hc : bits .and .u32 x 4294967264 = c) (e0 : (a == 3592355840) = false) (e1 : (a == 3594452992) = false) (e2 : (a == 3596550144) = false) (e3 : (b == 3370122240) = false) (e4 : (b == 3365927936) = false) (e5 : (b == 3361700864) = false) (e6 : (c == 3574299424) = false) (e7 : (c == 3574297888) = false) (e8 : (x == 3573751839) = false) (e9 : (x == 3573758911) = false) (e10 : (x == 3573758399) = false) (e11 : (x == 3573758655) = false) (e12 : (x == 3573758879) = false) (e13 : (x == 3573759967) = false) : Calls Try.prog 104 #[.int .u32 x] w fun e w' => e = .returned (I7 0 0 0 0 0 0 (fd x 0 16)) ∧ Below w.heap.size w w' := by
  have hu := fun w => undef_c x w hx hx'
  generalize fd x 0 16 = u at hu ⊢
  go_enter Try.func104, Try.ntmps104
  go_wp2_with (go_at_call 177; refine (hu _).mono ?_; rintro e w1 ⟨rfl, hB⟩; have HB := Lib.hid (fr_b w w1 hB); obtain ⟨c0, f0, c1, f1, c2, f2, c3, f3, c4, f4, c5, f5, c6, f6⟩ := fr_k w w1 hB; clear hB)
  exact ret7 rfl w _ _ _ _ _ _ _ _ _ rfl HB.out.1 HB.out.2 rfl
theorem few_c (x : Int) (w : World) (hx : 0 ≤ x) (hx' : x < 4294967296) : Calls Try.prog 104 #[.int .u32 x] w fun e w' => e = .returned (fewS x (bits .and .u32 x 4294966303) (bits .and .u32 x 4294966272) (bits .and .u32 x 4294967264)) ∧ Below w.heap.size w w' := by
  generalize ha : bits .and .u32 x 4294966303 = a
  generalize hb : bits .and .u32 x 4294966272 = b
  generalize hc : bits .and .u32 x 4294967264 = c
  unfold fewS
  by_cases h0 : a = 3592355840
  · rw [if_pos h0]; exact few_0 x a w hx hx' ha  h0
  rw [if_neg h0]
  have e0 : (a == 3592355840) = false := by simpa using h0
  by_cases h1 : a = 3594452992
  · rw [if_pos h1]; exact few_1 x a w hx hx' ha e0 h1
  rw [if_neg h1]
  have e1 : (a == 3594452992) = false := by simpa using h1
  by_cases h2 : a = 3596550144
  · rw [if_pos h2]; exact few_2 x a w hx hx' ha e0 e1 h2
  rw [if_neg h2]
  have e2 : (a == 3596550144) = false := by simpa using h2
  by_cases h3 : b = 3370122240
  · rw [if_pos h3]; exact few_3 x a b w hx hx' ha hb e0 e1 e2 h3
  rw [if_neg h3]
  have e3 : (b == 3370122240) = false := by simpa using h3
  by_cases h4 : b = 3365927936
  · rw [if_pos h4]; exact few_4 x a b w hx hx' ha hb e0 e1 e2 e3 h4
  rw [if_neg h4]
  have e4 : (b == 3365927936) = false := by simpa using h4
  by_cases h5 : b = 3361700864
  · rw [if_pos h5]; exact few_5 x a b w hx hx' ha hb e0 e1 e2 e3 e4 h5
  rw [if_neg h5]
  have e5 : (b == 3361700864) = false := by simpa using h5
  by_cases h6 : c = 3574299424
  · rw [if_pos h6]; exact few_6 x a b c w hx hx' ha hb hc e0 e1 e2 e3 e4 e5 h6
  rw [if_neg h6]
  have e6 : (c == 3574299424) = false := by simpa using h6
  by_cases h7 : c = 3574297888
  · rw [if_pos h7]; exact few_7 x a b c w hx hx' ha hb hc e0 e1 e2 e3 e4 e5 e6 h7
  rw [if_neg h7]
  have e7 : (c == 3574297888) = false := by simpa using h7
  by_cases h8 : x = 3573751839
  · rw [if_pos h8]; exact few_8 x a b c w hx hx' ha hb hc e0 e1 e2 e3 e4 e5 e6 e7 h8
  rw [if_neg h8]
  have e8 : (x == 3573751839) = false := by simpa using h8
  by_cases h9 : x = 3573758911
  · rw [if_pos h9]; exact few_9 x a b c w hx hx' ha hb hc e0 e1 e2 e3 e4 e5 e6 e7 e8 h9
  rw [if_neg h9]
  have e9 : (x == 3573758911) = false := by simpa using h9
  by_cases h10 : x = 3573758399
  · rw [if_pos h10]; exact few_10 x a b c w hx hx' ha hb hc e0 e1 e2 e3 e4 e5 e6 e7 e8 e9 h10
  rw [if_neg h10]
  have e10 : (x == 3573758399) = false := by simpa using h10
  by_cases h11 : x = 3573758655
  · rw [if_pos h11]; exact few_11 x a b c w hx hx' ha hb hc e0 e1 e2 e3 e4 e5 e6 e7 e8 e9 e10 h11
  rw [if_neg h11]
  have e11 : (x == 3573758655) = false := by simpa using h11
  by_cases h12 : x = 3573758879
  · rw [if_pos h12]; exact few_12 x a b c w hx hx' ha hb hc e0 e1 e2 e3 e4 e5 e6 e7 e8 e9 e10 e11 h12
  rw [if_neg h12]
  have e12 : (x == 3573758879) = false := by simpa using h12
  by_cases h13 : x = 3573759967
  · rw [if_pos h13]; exact few_13 x a b c w hx hx' ha hb hc e0 e1 e2 e3 e4 e5 e6 e7 e8 e9 e10 e11 e12 h13
  rw [if_neg h13]
  have e13 : (x == 3573759967) = false := by simpa using h13
  exact few_u x a b c w hx hx' ha hb hc e0 e1 e2 e3 e4 e5 e6 e7 e8 e9 e10 e11 e12 e13
end Go.Proofs.Ytnbpgoacooddjaa.En
