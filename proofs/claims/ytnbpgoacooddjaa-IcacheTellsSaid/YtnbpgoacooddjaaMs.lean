import Derived.Test.YtnbpgoacooddjaaMr
namespace Go.Proofs.Ytnbpgoacooddjaa.Mm
open Go.ChangeShapes Go.WideShapes Go.ChangeAt Go.RowKit
set_option linter.unusedVariables false
section
variable {w : World} {FP : Nat → Prop} {p : Nat} {M : Me} {v : Value} {B C : Nat → Nat}
set_option maxRecDepth 100000 in
set_option maxHeartbeats 4000000 in
theorem rat_y (h : MeC 213 215 w FP p M v B C) {x k o : Nat} (hs : Hs M x 1 k o) :
    Calls Try.prog 146 #[.pointer (some ⟨p, 0, none⟩), .int .u64 x] w fun e w' => e = .returned (.tuple #[M.reg k, .bool true]) ∧ Below w.heap.size w w' := by
  obtain ⟨ab, cap, hv⟩ := Hs.form' h hs
  have HB : Hid (Below w.heap.size w (w.alloc (.cells #[.int .u64 0, .int .u64 0, .bool false, .bool false] 113))) := Lib.hid ((Below.refl _ _).alloc (Nat.le_refl _) _)
  have h2 := h.past HB.out
  have hab : ab < w.heap.size := h.fl ab (h.fv ab (by subst hv; rfl))
  have hs0 : ab ≠ w.heap.size := by omega
  have hp0 : p ≠ w.heap.size := by have := h.fl p h.fp; omega
  have HFI := Lib.hid (in_y h2 hs)
  have hcm := h2.cv
  obtain ⟨f1, f2, f3, f4, f5⟩ := h2.area hv k hs.1
  have HLT : Hid (w.heap.size < (w.alloc (.cells #[.int .u64 0, .int .u64 0, .bool false, .bool false] 113)).heap.size) := Lib.hid (by simp)
  have HP1 := Lib.hid (h2.fl p h2.fp)
  have HAB := Lib.hid (h2.fl ab (h2.fv ab (by subst hv; rfl)))
  have gk : (k : Int) < M.n := by have := hs.1; omega
  have hkn : k < M.n := hs.1
  have q : ∀ o, (w.alloc (.cells #[.int .u64 0, .int .u64 0, .bool false, .bool false] 113)).cell? ⟨w.heap.size, o, none⟩ = (#[Value.int .u64 0, .int .u64 0, .bool false, .bool false])[o]? := fun o => World.cell?_alloc_at _ _ _ _ rfl
  have q0 := q 0
  have q1 := q 1
  have q2 := q 2
  have q3 := q 3
  have z : ∀ o, (w.alloc (.cells #[.int .u64 0, .int .u64 0, .bool false, .bool false] 113)).frozen? ⟨w.heap.size, o, none⟩ = false := fun o => World.frozen?_alloc_at _ _ _ _ rfl
  have z0 := z 0
  have z1 := z 1
  have z2 := z 2
  have z3 := z 3
  subst hv
  clear q z f5 h h2 hs
  unfold Me.reg
  go_enter Try.func146, Try.ntmps146
  go_wp2_with fail
  generalize w.alloc (.cells #[.int .u64 0, .int .u64 0, .bool false, .bool false] 113) = w1 at *
  refine HFI.out.mono ?_
  rintro e w2 ⟨rfl, hb2⟩
  have HQ0 := Lib.hid (hb2.cell (p := ⟨w.heap.size, 0, none⟩) HLT.out)
  have HQ1 := Lib.hid (hb2.cell (p := ⟨w.heap.size, 1, none⟩) HLT.out)
  have HQ2 := Lib.hid (hb2.cell (p := ⟨w.heap.size, 2, none⟩) HLT.out)
  have HQ3 := Lib.hid (hb2.cell (p := ⟨w.heap.size, 3, none⟩) HLT.out)
  replace q0 := HQ0.out.trans q0
  replace q1 := HQ1.out.trans q1
  replace q2 := HQ2.out.trans q2
  replace q3 := HQ3.out.trans q3
  replace z0 := (hb2.frozen (p := ⟨w.heap.size, 0, none⟩) HLT.out).trans z0
  replace z1 := (hb2.frozen (p := ⟨w.heap.size, 1, none⟩) HLT.out).trans z1
  replace z2 := (hb2.frozen (p := ⟨w.heap.size, 2, none⟩) HLT.out).trans z2
  replace z3 := (hb2.frozen (p := ⟨w.heap.size, 3, none⟩) HLT.out).trans z3
  replace hcm := (hb2.cell (p := ⟨p, 0, none⟩) HP1.out).trans hcm
  replace f1 := (hb2.cell (p := ⟨ab, k * 5, none⟩) HAB.out).trans f1
  replace f2 := (hb2.cell (p := ⟨ab, k * 5 + 1, none⟩) HAB.out).trans f2
  replace f3 := (hb2.cell (p := ⟨ab, k * 5 + 2, none⟩) HAB.out).trans f3
  replace f4 := (hb2.cell (p := ⟨ab, k * 5 + 3, none⟩) HAB.out).trans f4
  have HB2 := Lib.hid (HB.out.trans (hb2.mono (Nat.le_of_lt HLT.out)))
  clear hb2 HQ0 HQ1 HQ2 HQ3
  go_wp2
  obtain ⟨t0, t1, t2, t3⟩ := set4a w2 w.heap.size _ _ _ _ (.int .u64 (M.A k : Nat)) (.int .u64 (M.S k : Nat)) (.bool (M.W k)) (.bool (M.X k)) q0 q1 q2 q3
  refine bodyPost_ret (v := .tuple #[.agg #[.int .u64 (M.A k : Nat), .int .u64 (M.S k : Nat), .bool (M.W k), .bool (M.X k)], .bool true]) (by simp [results, Try.results146, go_sem, t0, t1, t2, t3]) rfl ⟨rfl, ?_⟩
  exact ((((HB2.out).setCell (Nat.le_refl _) _).setCell (Nat.le_refl _) _).setCell (Nat.le_refl _) _).setCell (Nat.le_refl _) _
set_option maxRecDepth 100000 in
set_option maxHeartbeats 4000000 in
theorem rat_n (h : MeC 213 215 w FP p M v B C) {x : Nat} (hx : x < 18446744073709551616) (hno : ∀ k o, ¬ Hs M x 1 k o) :
    Calls Try.prog 146 #[.pointer (some ⟨p, 0, none⟩), .int .u64 x] w fun e w' => e = .returned (.tuple #[.agg #[.int .u64 0, .int .u64 0, .bool false, .bool false], .bool false]) ∧ Below w.heap.size w w' := by
  have HB : Hid (Below w.heap.size w (w.alloc (.cells #[.int .u64 0, .int .u64 0, .bool false, .bool false] 113))) := Lib.hid ((Below.refl _ _).alloc (Nat.le_refl _) _)
  have h2 := h.past HB.out
  have hp0 : p ≠ w.heap.size := by have := h.fl p h.fp; omega
  have HFI := Lib.hid (in_n h2 hx (m := 1) (by omega) hno)
  have hcm := h2.cv
  have HLT : Hid (w.heap.size < (w.alloc (.cells #[.int .u64 0, .int .u64 0, .bool false, .bool false] 113)).heap.size) := Lib.hid (by simp)
  have q : ∀ o, (w.alloc (.cells #[.int .u64 0, .int .u64 0, .bool false, .bool false] 113)).cell? ⟨w.heap.size, o, none⟩ = (#[Value.int .u64 0, .int .u64 0, .bool false, .bool false])[o]? := fun o => World.cell?_alloc_at _ _ _ _ rfl
  have q0 := q 0
  have q1 := q 1
  have q2 := q 2
  have q3 := q 3
  have z : ∀ o, (w.alloc (.cells #[.int .u64 0, .int .u64 0, .bool false, .bool false] 113)).frozen? ⟨w.heap.size, o, none⟩ = false := fun o => World.frozen?_alloc_at _ _ _ _ rfl
  have z0 := z 0
  have z1 := z 1
  have z2 := z 2
  have z3 := z 3
  obtain ⟨a, cap, rfl, _⟩ := own_form h.ars
  clear q z h h2
  go_enter Try.func146, Try.ntmps146
  go_wp2_with fail
  generalize w.alloc (.cells #[.int .u64 0, .int .u64 0, .bool false, .bool false] 113) = w1 at *
  refine HFI.out.mono ?_
  rintro e w2 ⟨rfl, hb2⟩
  have HQ0 := Lib.hid (hb2.cell (p := ⟨w.heap.size, 0, none⟩) HLT.out)
  have HQ1 := Lib.hid (hb2.cell (p := ⟨w.heap.size, 1, none⟩) HLT.out)
  have HQ2 := Lib.hid (hb2.cell (p := ⟨w.heap.size, 2, none⟩) HLT.out)
  have HQ3 := Lib.hid (hb2.cell (p := ⟨w.heap.size, 3, none⟩) HLT.out)
  replace q0 := HQ0.out.trans q0
  replace q1 := HQ1.out.trans q1
  replace q2 := HQ2.out.trans q2
  replace q3 := HQ3.out.trans q3
  replace z0 := (hb2.frozen (p := ⟨w.heap.size, 0, none⟩) HLT.out).trans z0
  replace z1 := (hb2.frozen (p := ⟨w.heap.size, 1, none⟩) HLT.out).trans z1
  replace z2 := (hb2.frozen (p := ⟨w.heap.size, 2, none⟩) HLT.out).trans z2
  replace z3 := (hb2.frozen (p := ⟨w.heap.size, 3, none⟩) HLT.out).trans z3
  have HB2 := Lib.hid (HB.out.trans (hb2.mono (Nat.le_of_lt HLT.out)))
  clear hb2 HQ0 HQ1 HQ2 HQ3
  go_wp2
  obtain ⟨t0, t1, t2, t3⟩ := set4a w2 w.heap.size _ _ _ _ (.int .u64 0) (.int .u64 0) (.bool false) (.bool false) q0 q1 q2 q3
  refine bodyPost_ret (v := .tuple #[.agg #[.int .u64 0, .int .u64 0, .bool false, .bool false], .bool false]) (by simp [results, Try.results146, go_sem, t0, t1, t2, t3]) rfl ⟨rfl, ?_⟩
  exact ((((HB2.out).setCell (Nat.le_refl _) _).setCell (Nat.le_refl _) _).setCell (Nat.le_refl _) _).setCell (Nat.le_refl _) _
set_option maxRecDepth 100000 in
set_option maxHeartbeats 4000000 in
theorem rregions_c (h : MeC 213 215 w FP p M v B C) :
    Calls Try.prog 62 #[.pointer (some ⟨p, 0, none⟩)] w fun e w' => (∃ v', e = .returned v' ∧ w'.ownsRow w.heap.size 113 4 v' M.n (rgL M M.n)) ∧ Below w.heap.size w w' := by
  have hn16 := h.ok.n16
  obtain ⟨i0, hi, hz0, hz1, hz2⟩ := info_parts info113z
  have HO1 : Hid (w.ownsRow w.heap.size 113 4 (.slice none 0 0) 0 (rgL M 0)) := Lib.hid ⟨rfl, .inl ⟨rfl, rfl⟩⟩
  have H0 := Lib.hid h
  obtain ⟨a, cap, rfl, ha⟩ := own_form h.ars
  clear h
  go_enter Try.func62, Try.ntmps62
  go_wp2
  go_loopw [3, 4] (fun s3 s4 wr => ∃ j : Nat, j ≤ M.n ∧ s4 = .int .i64 j ∧ Hid (wr.ownsRow w.heap.size 113 4 s3 j (rgL M j)) ∧ Hid (Below w.heap.size w wr)) (fun _ s4 _ => M.n - (intOf s4).toNat)
  case atStart => exact ⟨0, by omega, rfl, HO1, Lib.hid (Below.refl _ _)⟩
  case round =>
    obtain ⟨j, hj, rfl, HO, HB⟩ := hrel
    have H := Lib.hid (H0.out.past HB.out)
    have hcm := H.out.cv
    by_cases hlt : j < M.n
    · obtain ⟨ab, rfl⟩ : ∃ g, a = some ⟨g, 0, none⟩ := by
        rcases ha with ha | ha
        · omega
        · exact ha
      obtain ⟨f1, f2, f3, f4, f5⟩ := H.out.area rfl j hlt
      have hab : ab < wr.heap.size := H.out.fl ab (H.out.fv ab rfl)
      have gj : (j : Int) < M.n := by omega
      have hW : Below wr.heap.size wr (wr.alloc (.cells #[.int .u64 (M.A j : Nat), .int .u64 (M.S j : Nat), .bool (M.W j), .bool (M.X j)] 113)) := (Below.refl _ _).alloc (Nat.le_refl _) _
      have HOx := Lib.hid (own_past HO.out hW)
      have HWs : Hid (Below w.heap.size w (wr.alloc (.cells #[.int .u64 (M.A j : Nat), .int .u64 (M.S j : Nat), .bool (M.W j), .bool (M.X j)] 113))) := Lib.hid (HB.out.trans (hW.mono HB.out.size))
      have HN : Hid (∀ q u, (rgC M j)[q]? = some u → (wr.alloc (.cells #[.int .u64 (M.A j : Nat), .int .u64 (M.S j : Nat), .bool (M.W j), .bool (M.X j)] 113)).cell? ((⟨wr.heap.size, 0, none⟩ : Addr).add q) = some u) := Lib.hid (fun q u hu => by
        have : (⟨wr.heap.size, 0, none⟩ : Addr).add q = ⟨wr.heap.size, q, none⟩ := by unfold Addr.add; split <;> simp_all
        rw [this, World.cell?_alloc_at _ _ _ _ rfl]
        unfold rgC at hu
        rw [← Array.getElem?_toList]
        exact hu)
      have HC1 := Lib.hid (rgC_one M j)
      clear hW
      go_wp2_with (at_builtin; refine wpList_append_own _ rfl _ _ 86 rfl w.heap.size 113 i0 _ 4 24 Try.underlying86 hi hz0 hz1 hz2 rfl (by decide) _ j (rgL M j) rfl HOx.out ⟨wr.heap.size, 0, none⟩ 1 1 (rgC M j) rfl rfl HN.out HC1.out (by unfold maxLen; omega) (by omega) (by have := HB.out.size; simp; omega) ?_; intro v' w2 ho hg hne; have HO2 := Lib.hid ho; have HG2 := Lib.hid hg; clear ho hg hne)
      refine ⟨⟨j + 1, by omega, by go_num, HO2, Lib.hid ?_⟩, by simp [intOf]; omega⟩
      exact HWs.out.grown HG2.out HWs.out.size (fun q hq => (HO.out.lt q hq).1)
    · obtain rfl : j = M.n := by omega
      go_wp2
      go_ret
      exact ⟨⟨_, rfl, HO.out⟩, HB.out⟩
end
end Go.Proofs.Ytnbpgoacooddjaa.Mm
