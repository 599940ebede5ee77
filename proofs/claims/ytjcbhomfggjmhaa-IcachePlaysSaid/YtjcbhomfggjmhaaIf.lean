import Derived.Test.YtjcbhomfggjmhaaRf
import Derived.Maps.AppendAt
namespace Go.Proofs.Ytjcbhomfggjmhaa.Mm
open Go.ChangeShapes Go.WideShapes Go.ChangeAt Go.RowKit Go.Maps
set_option linter.unusedVariables false
theorem info204z : (Try.prog.info? 105).map (fun i => (i.zero, i.size, i.bytes)) = some (some (.agg #[.int .i64 0, .int .u64 0]), 2, 16) := by kernel_rfl
theorem invL_snoc (l : List (Int × Nat)) (c : Int) (f : Nat) : invL (l ++ [(c, f)]) = invL l ++ [.int .i64 c, .int .u64 (f : Nat)] := by unfold invL; rw [List.flatMap_append]; rfl
theorem inval_step (S : Sd) (c : Int) (f j : Nat) : ({ ({ S with Wt := fun d => if d < j then S.Wt d ++ [(c, f)] else S.Wt d } : Sd) with Wt := fun d => if d = j then S.Wt j ++ [(c, f)] else ({ S with Wt := fun d => if d < j then S.Wt d ++ [(c, f)] else S.Wt d } : Sd).Wt d } : Sd) = { S with Wt := fun d => if d < j + 1 then S.Wt d ++ [(c, f)] else S.Wt d } := by
  show ({ S with Wt := fun d => if d = j then S.Wt j ++ [(c, f)] else if d < j then S.Wt d ++ [(c, f)] else S.Wt d } : Sd) = _
  congr
  funext d
  by_cases h1 : d = j
  · subst h1
    rw [if_pos rfl, if_pos (by omega)]
  · rw [if_neg h1]
    by_cases h2 : d < j
    · rw [if_pos h2, if_pos (by omega)]
    · rw [if_neg h2, if_neg (by omega)]
section
variable {w : World} {lo : Nat → Prop} {p : Nat} {L : Pl} {V : Nat → Value} {S : Sd}
theorem SdC.grow_keep {w1 : World} (h : SdC w lo p L V S) {c : Nat} (hc : c < S.n) (hg : w.grownBy w1 (V c).ownBlock) : w1.heap[p]? = w.heap[p]? ∧ w1.heap[L.wb]? = w.heap[L.wb]? := by
  have hV : ∀ q, (V c).ownBlock = some q → ∃ cur, w.heap[q]? = some (.cells cur 105 (0, 0)) := fun q hq => own_heap (h.rows c hc) hq
  have nocell : ∀ {q : Nat} {cur : Array Value} {e : TypeId}, w.heap[q]? = some (.cells cur e (0, 0)) → e ≠ 105 → some q ≠ (V c).ownBlock := fun hq hne e => by
    obtain ⟨cur, h2⟩ := hV _ e.symm
    rw [hq] at h2
    injection h2 with h2
    injection h2 with _ h2
    exact hne h2
  obtain ⟨cur, hwb⟩ := own_heap h.wr (g := L.wb) rfl
  exact ⟨hg.block p h.pl (nocell h.row (by decide)), hg.block L.wb h.lw.2 (nocell hwb (by decide))⟩
def Sd.inval (S : Sd) (c : Int) (x : Nat) : Sd := if isC S c then { S with Wt := fun d => if d < S.n then S.Wt d ++ [(c, x - x % 64)] else S.Wt d } else S
set_option maxRecDepth 100000 in
set_option maxHeartbeats 8000000 in
theorem inval_c (h : SdC w lo p L V S) (c : Int) {x : Nat} (hx : x < 18446744073709551616) (hwl : ∀ d, d < S.n → (S.Wt d).length ≤ 1000000) :
    Calls Try.prog 18 #[.pointer (some ⟨p, 0, none⟩), .int .i64 c, .int .u64 x] w fun e w' => e = .returned (.int .i64 (if isC S c then 0 else 1 : Nat)) ∧ (∃ V', SdC w' lo p L V' (S.inval c x)) ∧ Sv lo w w' := by
  obtain ⟨i0, hi, hz0, hz1, hz2⟩ := info_parts info204z
  have HI := Lib.hid (isCore_c h c)
  have H := Lib.hid h
  have HWL := Lib.hid hwl
  by_cases hc : isC S c
  · have d : decide (isC S c) = true := decide_eq_true hc
    have HV : Hid (S.inval c x = { S with Wt := fun d => if d < S.n then S.Wt d ++ [(c, x - x % 64)] else S.Wt d }) := Lib.hid (if_pos hc)
    have HC : Hid ((if isC S c then 0 else 1 : Nat) = 0) := Lib.hid (if_pos hc)
    rw [HC.out]
    have hf : IntKind.u64.wrap ((x : Int) - (x : Int) % 64) = ((x - x % 64 : Nat) : Int) := by rw [IntKind.wrap_u64]; omega
    have hf2 : IntKind.u64.wrap ((x : Int) - (x : Int).tmod 64) = ((x - x % 64 : Nat) : Int) := by rw [Int.tmod_eq_emod_of_nonneg (by omega), IntKind.wrap_u64]; omega
    generalize x - x % 64 = f at hf hf2 HV
    have c4 := h.cells.2.2.2.2
    have HS0 : Hid (SdC w lo p L V { S with Wt := fun d => if d < 0 then S.Wt d ++ [(c, f)] else S.Wt d }) := Lib.hid (by
      rw [show (fun d => if d < 0 then S.Wt d ++ [(c, f)] else S.Wt d) = S.Wt from funext fun d => if_neg (Nat.not_lt_zero d)]
      exact h)
    rw [d] at HI
    have HN4 := Lib.hid h.n4
    have hn4 := h.n4.2
    clear h hc d hwl HC
    go_enter Try.func18, Try.ntmps18
    go_wp2_with (go_at_call 55; refine HI.out.mono ?_; rintro e w1 ⟨rfl, h1⟩; obtain rfl := h1.symm)
    clear c4 HI
    go_loopw [7, 17] (fun _ s17 wr => ∃ (j : Nat) (V' : Nat → Value), j ≤ S.n ∧ s17 = .int .i64 j ∧ Hid (SdC wr lo p L V' { S with Wt := fun d => if d < j then S.Wt d ++ [(c, f)] else S.Wt d }) ∧ Hid (Sv lo w wr)) (fun _ s17 _ => S.n + 1 - (intOf s17).toNat)
    case atStart => exact ⟨0, V, by omega, rfl, HS0, Lib.hid (Sv.refl _ _)⟩
    case round =>
      obtain ⟨j, V', hj, rfl, HS, HB⟩ := hrel
      by_cases hlt : j < S.n
      · have gj : (j : Int) < S.n := by omega
        have c4 := HS.out.cells.2.2.2.2
        have hbd : Below wr.heap.size wr wr.drew := below_drewN (Below.refl _ _) 1
        have HSd := Lib.hid (HS.out.past hbd)
        have HBd := Lib.hid (HB.out.trans (Sv.of hbd))
        clear hbd
        go_upto_region 6 with (fail)
        clear c4
        refine wp_region_held_drew (S := fun w' => w'.cell? ⟨p, 4, none⟩ = some (.slice (some ⟨L.wb, 0, none⟩) S.n S.n)) (by kernel_rfl) HSd.out.cells.2.2.2.2 (fun hHeld => ?_)
        generalize wr.drew = V1 at HSd HBd hHeld ⊢
        have hbA : Below V1.heap.size V1 (V1.alloc (.cells #[.int .i64 c, .int .u64 (f : Nat)] 105)) := (Below.refl _ _).alloc (Nat.le_refl _) _
        have HSa := Lib.hid (HSd.out.past hbA)
        have HCW := Lib.hid (HSd.out.wcell (c := j) hlt)
        have HCA := Lib.hid (HSa.out.wcell (c := j) hlt)
        have HBa : Hid (Sv lo w (V1.alloc (.cells #[.int .i64 c, .int .u64 (f : Nat)] 105))) := Lib.hid (HBd.out.trans (Sv.of hbA))
        clear hbA
        obtain ⟨v', W2, hr, ho2, hg2, _, hloc⟩ := run_append_own_at (P := Try.prog) (V1.alloc (.cells #[.int .i64 c, .int .u64 (f : Nat)] 105)) 0 103 103 105 i0 _ 2 16 Try.underlying103 hi hz0 hz1 hz2 rfl (by decide) (V' j) (S.Wt j).length (invL (S.Wt j)) (by have := HSa.out.rows j hlt; rw [show ({ S with Wt := fun d => if d < j then S.Wt d ++ [(c, f)] else S.Wt d } : Sd).Wt j = S.Wt j from if_neg (Nat.lt_irrefl j)] at this; exact this) ⟨V1.heap.size, 0, none⟩ 1 1 [.int .i64 c, .int .u64 (f : Nat)] rfl (fun q u hu => by rw [Go.WideShapes.add_plain, Nat.zero_add, World.cell?_alloc_at _ _ _ _ rfl, ← Array.getElem?_toList]; exact hu) (fun u hu => by simp only [List.mem_cons, List.not_mem_nil, or_false] at hu; rcases hu with rfl | rfl <;> rfl) (by have := HWL.out j hlt; unfold maxLen; omega) (by have := HWL.out j hlt; omega) (Nat.zero_le _)
        obtain ⟨a', cp', rfl, _⟩ := own_form ho2
        have hk2 := HSa.out.grow_keep hlt hg2
        have e2 : W2.cell? ⟨p, 4, none⟩ = some (.slice (some ⟨L.wb, 0, none⟩) S.n S.n) := by rw [cell_of_row W2 p 4 _ 80 _ (hk2.1.trans HSa.out.row)]; rfl
        have e3 : W2.cell? ⟨L.wb, j, none⟩ = some (V' j) := (show W2.cell? ⟨L.wb, j, none⟩ = _ by unfold World.cell?; rw [hk2.2]).trans HCA.out.1
        have f3 : W2.frozen? ⟨L.wb, j, none⟩ = false := (show W2.frozen? ⟨L.wb, j, none⟩ = _ by unfold World.frozen?; rw [hk2.2]).trans HCA.out.2
        have hsw := HSa.out.setW hlt hg2 (l' := S.Wt j ++ [(c, f)]) (by rw [List.length_append]; rw [invL_snoc]; exact ho2) (fun q hq => hloc.elim (fun h1 => .inl (h1.symm.trans hq)) (fun h1 => .inr (by rw [h1] at hq; injection hq with hq; omega)))
        rw [inval_step] at hsw
        have HSW := Lib.hid hsw.1
        have HBW := Lib.hid (HBa.out.trans hsw.2)
        have e4 := hsw.1.cells.2.2.2.2
        have HR2 := Lib.hid hr
        clear hsw hk2 ho2 hg2 hloc hr
        obtain ⟨a0, cp0, hv0, _⟩ := own_form (HSd.out.rows j hlt)
        have hlen : ({ S with Wt := fun d => if d < j then S.Wt d ++ [(c, f)] else S.Wt d } : Sd).Wt j = S.Wt j := if_neg (Nat.lt_irrefl j)
        rw [hlen] at hv0
        clear hlen
        rw [hv0] at HR2 HCW HCA e3
        clear hv0
        refine wpAnyH_take (i := 0) (oi := { dst := some 20, op := Go.Op.move (Go.Operand.tmp 0), type := 37, pos := "icache.go:157", after := #[], guard := none }) (v := ?_) rfl (by kernel_rfl) (by kernel_rfl) (by kernel_rfl) (fun _ _ _ h => h) (Or.inl ⟨by rfl, ?_⟩) (by assumption) ?_
        rotate_left
        · (intro w0 hSw; (try dsimp only at hSw); go_split_ands; go_simp; with_reducible rfl)
        try simp only [Act.put, List.setIfInBounds_toArray, List.set_cons_zero, List.set_cons_succ]
        refine wpAnyH_take (i := 1) (oi := { dst := some 21, op := Go.Op.nilCheck (Go.Operand.tmp 20), type := 0, pos := "icache.go:157", after := #[{ on := 0, ground := Go.Ground.data }], guard := none }) (v := ?_) rfl (by kernel_rfl) (by kernel_rfl) (by kernel_rfl) (fun _ _ _ h => h) (Or.inl ⟨by rfl, ?_⟩) (by assumption) ?_
        rotate_left
        · (intro w0 hSw; (try dsimp only at hSw); go_split_ands; go_simp; with_reducible rfl)
        try simp only [Act.put, List.setIfInBounds_toArray, List.set_cons_zero, List.set_cons_succ]
        refine wpAnyH_take (i := 2) (oi := { dst := some 22, op := Go.Op.fieldAddr 80 (Go.Operand.tmp 21) 4, type := 0, pos := "icache.go:157", after := #[{ on := 1, ground := Go.Ground.data }], guard := none }) (v := ?_) rfl (by kernel_rfl) (by kernel_rfl) (by kernel_rfl) (fun _ _ _ h => h) (Or.inl ⟨by rfl, ?_⟩) (by assumption) ?_
        rotate_left
        · (intro w0 hSw; (try dsimp only at hSw); go_split_ands; go_simp; with_reducible rfl)
        try simp only [Act.put, List.setIfInBounds_toArray, List.set_cons_zero, List.set_cons_succ]
        refine wpAnyH_take (i := 3) (oi := { dst := some 23, op := Go.Op.load 78 (Go.Operand.tmp 22), type := 78, pos := "icache.go:157", after := #[{ on := 2, ground := Go.Ground.data }], guard := none }) (v := ?_) rfl (by kernel_rfl) (by kernel_rfl) (by kernel_rfl) (fun _ _ _ h => h) (Or.inl ⟨by rfl, ?_⟩) (by assumption) ?_
        rotate_left
        · (intro w0 hSw; (try dsimp only at hSw); go_split_ands; go_simp; with_reducible rfl)
        try simp only [Act.put, List.setIfInBounds_toArray, List.set_cons_zero, List.set_cons_succ]
        refine wpAnyH_take (i := 4) (oi := { dst := some 24, op := Go.Op.move (Go.Operand.tmp 7), type := 3, pos := "icache.go:157", after := #[], guard := none }) (v := ?_) rfl (by kernel_rfl) (by kernel_rfl) (by kernel_rfl) (fun _ _ _ h => h) (Or.inl ⟨by rfl, ?_⟩) (by assumption) ?_
        rotate_left
        · (intro w0 hSw; (try dsimp only at hSw); go_split_ands; go_simp; with_reducible rfl)
        try simp only [Act.put, List.setIfInBounds_toArray, List.set_cons_zero, List.set_cons_succ]
        refine wpAnyH_take (i := 5) (oi := { dst := some 25, op := Go.Op.move (Go.Operand.tmp 0), type := 37, pos := "icache.go:157", after := #[], guard := none }) (v := ?_) rfl (by kernel_rfl) (by kernel_rfl) (by kernel_rfl) (fun _ _ _ h => h) (Or.inl ⟨by rfl, ?_⟩) (by assumption) ?_
        rotate_left
        · (intro w0 hSw; (try dsimp only at hSw); go_split_ands; go_simp; with_reducible rfl)
        try simp only [Act.put, List.setIfInBounds_toArray, List.set_cons_zero, List.set_cons_succ]
        refine wpAnyH_take (i := 6) (oi := { dst := some 26, op := Go.Op.nilCheck (Go.Operand.tmp 25), type := 0, pos := "icache.go:157", after := #[{ on := 5, ground := Go.Ground.data }], guard := none }) (v := ?_) rfl (by kernel_rfl) (by kernel_rfl) (by kernel_rfl) (fun _ _ _ h => h) (Or.inl ⟨by rfl, ?_⟩) (by assumption) ?_
        rotate_left
        · (intro w0 hSw; (try dsimp only at hSw); go_split_ands; go_simp; with_reducible rfl)
        try simp only [Act.put, List.setIfInBounds_toArray, List.set_cons_zero, List.set_cons_succ]
        refine wpAnyH_take (i := 7) (oi := { dst := some 27, op := Go.Op.fieldAddr 80 (Go.Operand.tmp 26) 4, type := 0, pos := "icache.go:157", after := #[{ on := 6, ground := Go.Ground.data }], guard := none }) (v := ?_) rfl (by kernel_rfl) (by kernel_rfl) (by kernel_rfl) (fun _ _ _ h => h) (Or.inl ⟨by rfl, ?_⟩) (by assumption) ?_
        rotate_left
        · (intro w0 hSw; (try dsimp only at hSw); go_split_ands; go_simp; with_reducible rfl)
        try simp only [Act.put, List.setIfInBounds_toArray, List.set_cons_zero, List.set_cons_succ]
        refine wpAnyH_take (i := 8) (oi := { dst := some 28, op := Go.Op.load 78 (Go.Operand.tmp 27), type := 78, pos := "icache.go:157", after := #[{ on := 7, ground := Go.Ground.data }], guard := none }) (v := ?_) rfl (by kernel_rfl) (by kernel_rfl) (by kernel_rfl) (fun _ _ _ h => h) (Or.inl ⟨by rfl, ?_⟩) (by assumption) ?_
        rotate_left
        · (intro w0 hSw; (try dsimp only at hSw); go_split_ands; go_simp; with_reducible rfl)
        try simp only [Act.put, List.setIfInBounds_toArray, List.set_cons_zero, List.set_cons_succ]
        refine wpAnyH_take (i := 9) (oi := { dst := some 29, op := Go.Op.move (Go.Operand.tmp 7), type := 3, pos := "icache.go:157", after := #[], guard := none }) (v := ?_) rfl (by kernel_rfl) (by kernel_rfl) (by kernel_rfl) (fun _ _ _ h => h) (Or.inl ⟨by rfl, ?_⟩) (by assumption) ?_
        rotate_left
        · (intro w0 hSw; (try dsimp only at hSw); go_split_ands; go_simp; with_reducible rfl)
        try simp only [Act.put, List.setIfInBounds_toArray, List.set_cons_zero, List.set_cons_succ]
        refine wpAnyH_take (i := 10) (oi := { dst := some 30, op := Go.Op.indexAddr 78 (Go.Operand.tmp 28) (Go.Operand.tmp 29), type := 0, pos := "icache.go:157", after := #[{ on := 8, ground := Go.Ground.data }, { on := 9, ground := Go.Ground.data }], guard := none }) (v := ?_) rfl (by kernel_rfl) (by kernel_rfl) (by kernel_rfl) (fun _ _ _ h => h) (Or.inl ⟨by rfl, ?_⟩) (by assumption) ?_
        rotate_left
        · (intro w0 hSw; (try dsimp only at hSw); go_split_ands; go_simp; with_reducible rfl)
        try simp only [Act.put, List.setIfInBounds_toArray, List.set_cons_zero, List.set_cons_succ]
        refine wpAnyH_take (i := 12) (oi := { dst := some 32, op := Go.Op.move (Go.Operand.tmp 1), type := 3, pos := "icache.go:157", after := #[], guard := none }) (v := ?_) rfl (by kernel_rfl) (by kernel_rfl) (by kernel_rfl) (fun _ _ _ h => h) (Or.inl ⟨by rfl, ?_⟩) (by assumption) ?_
        rotate_left
        · (intro w0 hSw; (try dsimp only at hSw); go_split_ands; go_simp; with_reducible rfl)
        try simp only [Act.put, List.setIfInBounds_toArray, List.set_cons_zero, List.set_cons_succ]
        refine wpAnyH_take (i := 13) (oi := { dst := some 33, op := Go.Op.move (Go.Operand.tmp 2), type := 35, pos := "icache.go:157", after := #[], guard := none }) (v := ?_) rfl (by kernel_rfl) (by kernel_rfl) (by kernel_rfl) (fun _ _ _ h => h) (Or.inl ⟨by rfl, ?_⟩) (by assumption) ?_
        rotate_left
        · (intro w0 hSw; (try dsimp only at hSw); go_split_ands; go_simp; with_reducible rfl)
        try simp only [Act.put, List.setIfInBounds_toArray, List.set_cons_zero, List.set_cons_succ]
        refine wpAnyH_take (i := 14) (oi := { dst := some 34, op := Go.Op.move (Go.Operand.tmp 2), type := 35, pos := "icache.go:157", after := #[], guard := none }) (v := ?_) rfl (by kernel_rfl) (by kernel_rfl) (by kernel_rfl) (fun _ _ _ h => h) (Or.inl ⟨by rfl, ?_⟩) (by assumption) ?_
        rotate_left
        · (intro w0 hSw; (try dsimp only at hSw); go_split_ands; go_simp; with_reducible rfl)
        try simp only [Act.put, List.setIfInBounds_toArray, List.set_cons_zero, List.set_cons_succ]
        refine wpAnyH_take (i := 15) (oi := { dst := some 35, op := Go.Op.binOp Go.BinOp.rem 35 (Go.Operand.tmp 34) (Go.Operand.const (Go.Value.int Go.IntKind.u64 64)) 35, type := 35, pos := "icache.go:157", after := #[{ on := 14, ground := Go.Ground.data }], guard := none }) (v := ?_) rfl (by kernel_rfl) (by kernel_rfl) (by kernel_rfl) (fun _ _ _ h => h) (Or.inl ⟨by rfl, ?_⟩) (by assumption) ?_
        rotate_left
        · (intro w0 hSw; (try dsimp only at hSw); go_split_ands; go_simp; with_reducible rfl)
        try simp only [Act.put, List.setIfInBounds_toArray, List.set_cons_zero, List.set_cons_succ]
        refine wpAnyH_take (i := 16) (oi := { dst := some 36, op := Go.Op.binOp Go.BinOp.sub 35 (Go.Operand.tmp 33) (Go.Operand.tmp 35) 35, type := 35, pos := "icache.go:157", after := #[{ on := 13, ground := Go.Ground.data }, { on := 15, ground := Go.Ground.data }], guard := none }) (v := ?_) rfl (by kernel_rfl) (by kernel_rfl) (by kernel_rfl) (fun _ _ _ h => h) (Or.inl ⟨by rfl, ?_⟩) (by assumption) ?_
        rotate_left
        · (intro w0 hSw; (try dsimp only at hSw); go_split_ands; go_simp; with_reducible rfl)
        try simp only [Act.put, List.setIfInBounds_toArray, List.set_cons_zero, List.set_cons_succ]
        refine wpAnyH_take (i := 17) (oi := { dst := some 37, op := Go.Op.build 105 #[(0, Go.Operand.tmp 32), (1, Go.Operand.tmp 36)], type := 105, pos := "icache.go:157", after := #[{ on := 12, ground := Go.Ground.data }, { on := 16, ground := Go.Ground.data }], guard := none }) (v := ?_) rfl (by kernel_rfl) (by kernel_rfl) (by kernel_rfl) (fun _ _ _ h => h) (Or.inl ⟨by rfl, ?_⟩) (by assumption) ?_
        rotate_left
        · (intro w0 hSw; (try dsimp only at hSw); go_split_ands; go_simp; with_reducible rfl)
        try simp only [Act.put, List.setIfInBounds_toArray, List.set_cons_zero, List.set_cons_succ]
        refine wpAnyH_ready (rs := [11, 18]) (by kernel_rfl) (by simp) ?_
        refine AllReadyH.cons (o := { dst := some 31, op := Go.Op.load 103 (Go.Operand.tmp 30), type := 103, pos := "icache.go:157", after := #[{ on := 10, ground := Go.Ground.data }], guard := none }) rfl (fun K hK => ?_) (AllReadyH.cons (o := { dst := some 38, op := Go.Op.buildSlice 103 1 #[(0, Go.Operand.tmp 37)], type := 103, pos := "icache.go:157", after := #[{ on := 17, ground := Go.Ground.data }], guard := none }) rfl (fun K hK => ?_) AllReadyH.nil)
        · have c0 : V1.cell? ⟨L.wb, j, none⟩ = some (.slice a0 (S.Wt j).length cp0) := HCW.out.1
          go_simp
          refine hK.out _ _ HSd.out.cells.2.2.2.2 (fun hHeld => ?_)
          clear hK K
          try simp only [Act.put, List.setIfInBounds_toArray, List.set_cons_zero, List.set_cons_succ]
          refine wpAnyH_ready (rs := [18]) (by kernel_rfl) (by simp) ?_
          refine AllReadyH.cons (o := { dst := some 38, op := Go.Op.buildSlice 103 1 #[(0, Go.Operand.tmp 37)], type := 103, pos := "icache.go:157", after := #[{ on := 17, ground := Go.Ground.data }], guard := none }) rfl (fun K hK => ?_) AllReadyH.nil
          go_simp
          refine hK.out _ _ HSa.out.cells.2.2.2.2 (fun hHeld => ?_)
          clear hK K
          try simp only [Act.put, List.setIfInBounds_toArray, List.set_cons_zero, List.set_cons_succ]
          refine wpAnyH_ready (rs := [19]) (by kernel_rfl) (by simp) ?_
          refine AllReadyH.cons (o := { dst := some 39, op := Go.Op.call { callee := Go.Callee.builtin Go.Builtin.append, args := #[Go.Operand.tmp 31, Go.Operand.tmp 38], argTypes := #[103, 103] }, type := 103, pos := "icache.go:157", after := #[{ on := 11, ground := Go.Ground.data }, { on := 18, ground := Go.Ground.data }], guard := none }) rfl (fun K hK => ?_) AllReadyH.nil
          refine step_append_run rfl _ _ _ rfl _ _ _ _ rfl (by rfl) HR2.out ?_
          refine hK.out _ _ e2 (fun hHeld => ?_)
          clear hK K
          try simp only [Act.put, List.setIfInBounds_toArray, List.set_cons_zero, List.set_cons_succ]
          refine wpAnyH_take (i := 20) (oi := { dst := some 40, op := Go.Op.indexAddr 78 (Go.Operand.tmp 23) (Go.Operand.tmp 24), type := 0, pos := "icache.go:157", after := #[{ on := 3, ground := Go.Ground.data }, { on := 4, ground := Go.Ground.data }, { on := 0, ground := Go.Ground.phase }, { on := 1, ground := Go.Ground.phase }, { on := 2, ground := Go.Ground.phase }, { on := 3, ground := Go.Ground.phase }, { on := 4, ground := Go.Ground.phase }, { on := 5, ground := Go.Ground.phase }, { on := 6, ground := Go.Ground.phase }, { on := 7, ground := Go.Ground.phase }, { on := 8, ground := Go.Ground.phase }, { on := 9, ground := Go.Ground.phase }, { on := 10, ground := Go.Ground.phase }, { on := 11, ground := Go.Ground.phase }, { on := 12, ground := Go.Ground.phase }, { on := 13, ground := Go.Ground.phase }, { on := 14, ground := Go.Ground.phase }, { on := 15, ground := Go.Ground.phase }, { on := 16, ground := Go.Ground.phase }, { on := 17, ground := Go.Ground.phase }, { on := 18, ground := Go.Ground.phase }, { on := 19, ground := Go.Ground.phase }], guard := none }) (v := ?_) rfl (by kernel_rfl) (by kernel_rfl) (by kernel_rfl) (fun _ _ _ h => h) (Or.inl ⟨by rfl, ?_⟩) (by assumption) ?_
          rotate_left
          · (intro w0 hSw; (try dsimp only at hSw); go_split_ands; go_simp; with_reducible rfl)
          try simp only [Act.put, List.setIfInBounds_toArray, List.set_cons_zero, List.set_cons_succ]
          refine wpAnyH_ready (rs := [21]) (by kernel_rfl) (by simp) ?_
          refine AllReadyH.cons (o := { dst := none, op := Go.Op.store 103 (Go.Operand.tmp 40) (Go.Operand.tmp 39), type := 0, pos := "icache.go:157", after := #[{ on := 20, ground := Go.Ground.data }, { on := 19, ground := Go.Ground.data }, { on := 19, ground := Go.Ground.chain }, { on := 0, ground := Go.Ground.phase }, { on := 1, ground := Go.Ground.phase }, { on := 2, ground := Go.Ground.phase }, { on := 3, ground := Go.Ground.phase }, { on := 4, ground := Go.Ground.phase }, { on := 5, ground := Go.Ground.phase }, { on := 6, ground := Go.Ground.phase }, { on := 7, ground := Go.Ground.phase }, { on := 8, ground := Go.Ground.phase }, { on := 9, ground := Go.Ground.phase }, { on := 10, ground := Go.Ground.phase }, { on := 11, ground := Go.Ground.phase }, { on := 12, ground := Go.Ground.phase }, { on := 13, ground := Go.Ground.phase }, { on := 14, ground := Go.Ground.phase }, { on := 15, ground := Go.Ground.phase }, { on := 16, ground := Go.Ground.phase }, { on := 17, ground := Go.Ground.phase }, { on := 18, ground := Go.Ground.phase }, { on := 19, ground := Go.Ground.phase }], guard := none }) rfl (fun K hK => ?_) AllReadyH.nil
          go_simp
          refine hK.out _ _ e4 (fun hHeld => ?_)
          clear hK K
          try simp only [Act.put, List.setIfInBounds_toArray, List.set_cons_zero, List.set_cons_succ]
          refine wpAnyH_done (by kernel_rfl) ?_ _
          clear hHeld
          go_wp2
          exact ⟨⟨j + 1, _, by omega, by go_num, HSW, HBW⟩, by simp [intOf]; omega⟩
        · go_simp
          refine hK.out _ _ HSa.out.cells.2.2.2.2 (fun hHeld => ?_)
          clear hK K
          try simp only [Act.put, List.setIfInBounds_toArray, List.set_cons_zero, List.set_cons_succ]
          refine wpAnyH_ready (rs := [11]) (by kernel_rfl) (by simp) ?_
          refine AllReadyH.cons (o := { dst := some 31, op := Go.Op.load 103 (Go.Operand.tmp 30), type := 103, pos := "icache.go:157", after := #[{ on := 10, ground := Go.Ground.data }], guard := none }) rfl (fun K hK => ?_) AllReadyH.nil
          have c0 : (V1.alloc (.cells #[.int .i64 c, .int .u64 (f : Nat)] 105)).cell? ⟨L.wb, j, none⟩ = some (.slice a0 (S.Wt j).length cp0) := HCA.out.1
          go_simp
          refine hK.out _ _ HSa.out.cells.2.2.2.2 (fun hHeld => ?_)
          clear hK K
          try simp only [Act.put, List.setIfInBounds_toArray, List.set_cons_zero, List.set_cons_succ]
          refine wpAnyH_ready (rs := [19]) (by kernel_rfl) (by simp) ?_
          refine AllReadyH.cons (o := { dst := some 39, op := Go.Op.call { callee := Go.Callee.builtin Go.Builtin.append, args := #[Go.Operand.tmp 31, Go.Operand.tmp 38], argTypes := #[103, 103] }, type := 103, pos := "icache.go:157", after := #[{ on := 11, ground := Go.Ground.data }, { on := 18, ground := Go.Ground.data }], guard := none }) rfl (fun K hK => ?_) AllReadyH.nil
          refine step_append_run rfl _ _ _ rfl _ _ _ _ rfl (by rfl) HR2.out ?_
          refine hK.out _ _ e2 (fun hHeld => ?_)
          clear hK K
          try simp only [Act.put, List.setIfInBounds_toArray, List.set_cons_zero, List.set_cons_succ]
          refine wpAnyH_take (i := 20) (oi := { dst := some 40, op := Go.Op.indexAddr 78 (Go.Operand.tmp 23) (Go.Operand.tmp 24), type := 0, pos := "icache.go:157", after := #[{ on := 3, ground := Go.Ground.data }, { on := 4, ground := Go.Ground.data }, { on := 0, ground := Go.Ground.phase }, { on := 1, ground := Go.Ground.phase }, { on := 2, ground := Go.Ground.phase }, { on := 3, ground := Go.Ground.phase }, { on := 4, ground := Go.Ground.phase }, { on := 5, ground := Go.Ground.phase }, { on := 6, ground := Go.Ground.phase }, { on := 7, ground := Go.Ground.phase }, { on := 8, ground := Go.Ground.phase }, { on := 9, ground := Go.Ground.phase }, { on := 10, ground := Go.Ground.phase }, { on := 11, ground := Go.Ground.phase }, { on := 12, ground := Go.Ground.phase }, { on := 13, ground := Go.Ground.phase }, { on := 14, ground := Go.Ground.phase }, { on := 15, ground := Go.Ground.phase }, { on := 16, ground := Go.Ground.phase }, { on := 17, ground := Go.Ground.phase }, { on := 18, ground := Go.Ground.phase }, { on := 19, ground := Go.Ground.phase }], guard := none }) (v := ?_) rfl (by kernel_rfl) (by kernel_rfl) (by kernel_rfl) (fun _ _ _ h => h) (Or.inl ⟨by rfl, ?_⟩) (by assumption) ?_
          rotate_left
          · (intro w0 hSw; (try dsimp only at hSw); go_split_ands; go_simp; with_reducible rfl)
          try simp only [Act.put, List.setIfInBounds_toArray, List.set_cons_zero, List.set_cons_succ]
          refine wpAnyH_ready (rs := [21]) (by kernel_rfl) (by simp) ?_
          refine AllReadyH.cons (o := { dst := none, op := Go.Op.store 103 (Go.Operand.tmp 40) (Go.Operand.tmp 39), type := 0, pos := "icache.go:157", after := #[{ on := 20, ground := Go.Ground.data }, { on := 19, ground := Go.Ground.data }, { on := 19, ground := Go.Ground.chain }, { on := 0, ground := Go.Ground.phase }, { on := 1, ground := Go.Ground.phase }, { on := 2, ground := Go.Ground.phase }, { on := 3, ground := Go.Ground.phase }, { on := 4, ground := Go.Ground.phase }, { on := 5, ground := Go.Ground.phase }, { on := 6, ground := Go.Ground.phase }, { on := 7, ground := Go.Ground.phase }, { on := 8, ground := Go.Ground.phase }, { on := 9, ground := Go.Ground.phase }, { on := 10, ground := Go.Ground.phase }, { on := 11, ground := Go.Ground.phase }, { on := 12, ground := Go.Ground.phase }, { on := 13, ground := Go.Ground.phase }, { on := 14, ground := Go.Ground.phase }, { on := 15, ground := Go.Ground.phase }, { on := 16, ground := Go.Ground.phase }, { on := 17, ground := Go.Ground.phase }, { on := 18, ground := Go.Ground.phase }, { on := 19, ground := Go.Ground.phase }], guard := none }) rfl (fun K hK => ?_) AllReadyH.nil
          go_simp
          refine hK.out _ _ e4 (fun hHeld => ?_)
          clear hK K
          try simp only [Act.put, List.setIfInBounds_toArray, List.set_cons_zero, List.set_cons_succ]
          refine wpAnyH_done (by kernel_rfl) ?_ _
          clear hHeld
          go_wp2
          exact ⟨⟨j + 1, _, by omega, by go_num, HSW, HBW⟩, by simp [intOf]; omega⟩
      · have hjn : j = S.n := by omega
        subst hjn
        go_wp2
        go_ret
        exact ⟨rfl, ⟨V', by rw [HV.out]; exact HS.out⟩, HB.out⟩
  · have d : decide (isC S c) = false := decide_eq_false hc
    have HV : Hid (S.inval c x = S) := Lib.hid (if_neg hc)
    have HC : Hid ((if isC S c then 0 else 1 : Nat) = 1) := Lib.hid (if_neg hc)
    rw [HC.out]
    rw [d] at HI
    clear h hc d hwl HC
    go_enter Try.func18, Try.ntmps18
    go_wp2_with (go_at_call 55; refine HI.out.mono ?_; rintro e w1 ⟨rfl, rfl⟩)
    go_ret
    exact ⟨rfl, ⟨V, by rw [HV.out]; exact H.out⟩, Sv.refl _ _⟩
end
end Go.Proofs.Ytjcbhomfggjmhaa.Mm
