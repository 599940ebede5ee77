import Derived.Test.YtjcbhomfggjmhaaNb
import Derived.Test.YtjcbhomfggjmhaaNd
import Derived.Deep.CutBlock
import Derived.Deep.DeepCutAuto
import Derived.Deep.CutRange
import Derived.Deep.Upon
namespace Go.Proofs.Ytjcbhomfggjmhaa.Mm
open Go.ChangeShapes Go.WideShapes Go.ChangeAt Go.RowKit Go.Deep
set_option linter.unusedVariables false
theorem info215z : (Try.prog.info? 72).map (fun i => (i.zero, i.size, i.bytes)) = some (some (.agg #[.int .u64 0, .int .u64 0, .bool false, .bool false, .slice none 0 0]), 5, 48) := by kernel_rfl
/-- A slice of pieces that is appended. -/
def SrcP (W : World) (u : Value) (m : Nat) (news : List Value) : Prop := (u = .slice none 0 0 ∧ m = 0 ∧ news = []) ∨ ∃ a c, u = .slice (some a) m c ∧ news.length = m * 5 ∧ (∀ j x, news[j]? = some x → W.cell? (a.add j) = some x) ∧ ∀ x ∈ news, x.oneCell' = true
theorem SrcP.past {w w' : World} {u : Value} {m : Nat} {news : List Value} (h : SrcP w u m news) (hb : Below w.heap.size w w') : SrcP w' u m news := by
  rcases h with h | ⟨a, c, e, hl, hc, h1⟩
  · exact .inl h
  · exact .inr ⟨a, c, e, hl, fun j x hj => (hb.cell (p := a.add j) (World.block_lt_of_cell? w _ (hc j x hj))).trans (hc j x hj), h1⟩
theorem append_any (W : World) (base n m : Nat) (v u : Value) (xs news : List Value) (ho : W.ownsRow base 72 5 v n xs) (hs : SrcP W u m news) (hm : n + m ≤ 16) (hb : base ≤ W.heap.size) :
    ∃ v' W', (Builtin.append_ #[68, 68] 68 #[v, u]).run Try.prog W = .ok v' W' ∧ W'.ownsRow base 72 5 v' (n + m) (xs ++ news) ∧ W.grownBy W' v.ownBlock := by
  obtain ⟨i0, hi, hz0, hz1, hz2⟩ := info_parts info215z
  rcases hs with ⟨rfl, rfl, rfl⟩ | ⟨a, c, rfl, hl, hc, h1⟩
  · exact ⟨v, W, run_append_owned_none W base 68 68 72 i0 5 Try.underlying68 hi v n xs ho, by simpa using ho, ⟨rfl, rfl, rfl, Nat.le_refl _, fun _ _ _ => rfl⟩⟩
  · obtain ⟨v', W', h2, h3, h4, _⟩ := run_append_own_at (P := Try.prog) W base 68 68 72 i0 _ 5 48 Try.underlying68 hi hz0 hz1 hz2 rfl (by decide) v n xs ho a m c news hl hc h1 (by unfold maxLen; omega) (by omega) hb
    exact ⟨v', W', h2, h3, h4⟩
/-- Appending to a row without any room lays a new one, or nothing. -/
theorem append_empty (W : World) (g m : Nat) (u : Value) (news : List Value) (ho : W.ownsRow g 72 5 (.slice (some ⟨g, 0, none⟩) 0 0) 0 []) (hs : SrcP W u m news) (hm : m ≤ 16) (hb : g ≤ W.heap.size) :
    ∃ v' W', (Builtin.append_ #[68, 68] 68 #[.slice (some ⟨g, 0, none⟩) 0 0, u]).run Try.prog W = .ok v' W' ∧ W'.ownsRow g 72 5 v' m news ∧ Below W.heap.size W W' := by
  obtain ⟨i0, hi, hz0, hz1, hz2⟩ := info_parts info215z
  rcases hs with ⟨rfl, rfl, rfl⟩ | ⟨a, c, rfl, hl, hc, h1⟩
  · exact ⟨_, W, run_append_owned_none W g 68 68 72 i0 5 Try.underlying68 hi _ 0 [] ho, ho, Below.refl _ _⟩
  · obtain ⟨v', W', h2, h3, h4, _⟩ := run_append_own_at (P := Try.prog) W g 68 68 72 i0 _ 5 48 Try.underlying68 hi hz0 hz1 hz2 rfl (by decide) _ 0 [] ho a m c news hl hc h1 (by unfold maxLen; omega) (by omega) hb
    refine ⟨v', W', h2, by simpa using h3, ?_⟩
    rcases Nat.eq_zero_or_pos m with h0 | h0
    · subst h0
      have : news = [] := List.length_eq_zero_iff.1 (by omega)
      subst this
      have h5 : (Builtin.append_ #[68, 68] 68 #[.slice (some ⟨g, 0, none⟩) 0 0, .slice (some a) 0 c]).run Try.prog W = .ok (.slice (some ⟨g, 0, none⟩) 0 0) W := by
        simp [Builtin.append_, run_underlying Try.underlying68, sizeOf, typeInfo, hi, Builtin.lenOf, Builtin.firstCells, loadCells, loadCellsFrom, storeCells]
      rw [h2] at h5
      injection h5 with _ h5
      subst h5
      exact Below.refl _ _
    · have h5 := run_append_grow (P := Try.prog) (w := W) 68 68 72 i0 _ Try.underlying68 hi hz0 ⟨g, 0, none⟩ 0 0 [] (by simp) (by simp) a m c news (by rw [hl, hz1]) hc (by omega) (by omega) (by rw [hz2]; have := nextslicecap_le (need := 0 + m) (old := 0) (by omega); omega)
      rw [h2] at h5
      injection h5 with _ h5
      subst h5
      exact ⟨rfl, rfl, rfl, by simp, fun k hk => heap_alloc_old W.drew _ hk⟩

theorem own_grown {w w' : World} {b b' n n' s s' : Nat} {e e' : TypeId} {v v' : Value} {xs xs' : List Value} (h : w.ownsRow b e s v n xs) (hr : w.ownsRow b' e' s' v' n' xs') (hne : e ≠ e') (hg : w.grownBy w' v'.ownBlock) : w'.ownsRow b e s v n xs :=
  own_kept h fun q hq => hg.block q (h.lt q hq).2 fun e0 => by
    obtain ⟨c, hc⟩ := own_heap h hq
    obtain ⟨c', hc'⟩ := own_heap hr e0.symm
    rw [hc] at hc'
    injection hc' with hc'
    injection hc' with _ hc'
    exact hne hc'
theorem TwAt.srcs {w : World} {mb i k n : Nat} {A S : Nat → Nat} {W X : Nat → Bool} {v : Value} {B C : Nat → Nat} (h : TwAt 70 72 w mb (zMe n A S W X) i v B C) (hk : k ≤ i) :
    ∃ a cp, v = .slice a i cp ∧ i ≤ cp ∧ SrcP w (sliced a 0 k cp 5) k ((arL (zMe n A S W X) B C i).take (k * 5)) ∧ SrcP w (sliced a k i cp 5) (i - k) ((arL (zMe n A S W X) B C i).drop (k * 5)) := by
  rcases h.ars.2 with ⟨rfl, rfl⟩ | ⟨g, cap, cur, rfl, hb, hg, hc, hm, hs, ht⟩
  · obtain rfl : k = 0 := by omega
    exact ⟨none, 0, rfl, Nat.le_refl _, .inl ⟨rfl, rfl, rfl⟩, .inl ⟨rfl, rfl, rfl⟩⟩
  · have hcell : ∀ q x, (arL (zMe n A S W X) B C i)[q]? = some x → w.cell? ⟨g, q, none⟩ = some x := (own_cells h.ars).1
    refine ⟨_, cap, rfl, hc, .inr ⟨⟨g, 0, none⟩, cap, ?_, ?_, fun j x hj => ?_, fun x hx => arL_one _ _ _ _ x (List.mem_of_mem_take hx)⟩, .inr ⟨if cap = k then ⟨g, 0, none⟩ else ⟨g, k * 5, none⟩, cap - k, ?_, ?_, fun j x hj => ?_, fun x hx => arL_one _ _ _ _ x (List.mem_of_mem_drop hx)⟩⟩
    · unfold sliced
      split <;> simp [Go.WideShapes.add_plain]
    · rw [List.length_take, arL_len]; omega
    · rw [Go.WideShapes.add_plain, Nat.zero_add]
      refine hcell j x ?_
      rw [List.getElem?_take] at hj
      split at hj
      · exact hj
      · cases hj
    · unfold sliced
      split <;> simp [Go.WideShapes.add_plain]
    · rw [List.length_drop, arL_len]; omega
    · have hj' := hj
      rw [List.getElem?_drop] at hj
      have hlt := (List.getElem?_eq_some_iff.1 hj).1
      rw [arL_len] at hlt
      rw [if_neg (by omega), Go.WideShapes.add_plain]
      exact hcell _ x hj
theorem wpList_append_run {P : Program} {w : World} {ops : Array Oper} {rest : List Oper} {o : Oper} {a : Act} {Q : Exit → Act → World → Prop} (hgd : o.guard = none) (s x : Operand) (t : TypeId)
    (ho : o.op = .call { callee := .builtin .append, args := #[s, x], argTypes := #[t, t] }) (v v2 v' : Value) (w' : World) (hs : a.eval s = v) (hx : a.eval x = v2)
    (hr : (Builtin.append_ #[t, t] o.type #[v, v2]).run P w = .ok v' w') (h : wpList P ops Q rest (a.put o.dst v') w') : wpList P ops Q (o :: rest) a w := by
  refine wpList_plain hgd fun K hK => ?_
  unfold Oper.wp
  simp only [execOp, ho, resolve, invoke, builtin, Sem.run_bind, Sem.run_pure, Result.andThen_ok, List.map_toArray, List.map_cons, List.map_nil, hs, hx, hr]
  exact hK _ _ h
def RNewC (n : Nat) (A0 S0 : Nat → Nat) (W0 X0 : Nat → Bool) (w : World) (e : Ending) (w' : World) : Prop := Below w.heap.size w w' ∧
  ((RightD A0 S0 n ∧ ∃ mb A S W X v B C, e = .returned (.tuple #[.pointer (some ⟨mb, 0, none⟩), .int .i64 0]) ∧ Dat n A0 S0 W0 X0 A S W X ∧ Up A n ∧ MeC 70 72 w' (fun k => w.heap.size ≤ k ∧ k < w'.heap.size) mb (zMe n A S W X) v B C) ∨ (¬ RightD A0 S0 n ∧ e = .returned (.tuple #[.pointer none, .int .i64 1])))

set_option maxRecDepth 100000 in
set_option maxHeartbeats 8000000 in
theorem rnew_c (w : World) (u : Value) (n : Nat) (A0 S0 : Nat → Nat) (W0 X0 : Nat → Bool) (hb : RgSrc w u n A0 S0 W0 X0) (hA : ∀ i, A0 i < 18446744073709551616) (hS : ∀ i, S0 i < 18446744073709551616) (n2 : n ≤ 16) :
    Calls Try.prog 7 #[u] w (RNewC n A0 S0 W0 X0 w) := by
  have d1 : decide ((16 : Int) < (n : Int)) = false := decide_eq_false (by omega)
  obtain ⟨sp, cap, rfl, hcap, hpos⟩ := hb.plain
  have HP := Lib.hid hpos
  have HA := Lib.hid hA
  have HS := Lib.hid hS
  clear hb hpos hA hS
  have HT0 : Hid (TwAt 70 72 (w.alloc (.cells #[.slice none 0 0] 70)) w.heap.size (zMe 0 A0 S0 W0 X0) 0 (.slice none 0 0) (fun _ => 0) (fun _ => 0)) := Lib.hid ⟨heap_alloc_new w _, ⟨rfl, .inl ⟨rfl, rfl⟩⟩, fun k hk => by omega, fun i k hi => by omega⟩
  have HB0 : Hid (Below w.heap.size w (w.alloc (.cells #[.slice none 0 0] 70))) := Lib.hid ((Below.refl _ _).alloc (Nat.le_refl _) _)
  go_enter Try.func7, Try.ntmps7
  go_wp2
  generalize hwm : w.alloc (.cells #[.slice none 0 0] 70) = wm at HT0 HB0 ⊢
  clear hwm
  go_loopw [2, 3, 5, 6, 7, 8] (fun _ _ s5 _ _ _ wr => ∃ i : Nat, i ≤ n ∧ s5 = .int .i64 i ∧ Hid (RightD A0 S0 i) ∧ Hid (Below wm.heap.size wm wr)) (fun _ _ s5 _ _ _ _ => n + 1 - (intOf s5).toNat)
  case atStart => exact ⟨0, by omega, rfl, Lib.hid ⟨fun i hi => by omega, fun i k hi => by omega⟩, Lib.hid (Below.refl _ _)⟩
  case round =>
    obtain ⟨i, hi, rfl, HR, HB⟩ := hrel
    have HBw : Hid (Below w.heap.size w wr) := Lib.hid (HB0.out.trans (HB.out.mono HB0.out.size))
    by_cases hlt : i < n
    · obtain ⟨rb, ro, rfl, hrb, hcells⟩ := HP.out (by omega)
      have f0 := (HBw.out.cell (p := ⟨rb, ro + i * 4, none⟩) hrb).trans (hcells i hlt).1
      have f1 := (HBw.out.cell (p := ⟨rb, ro + i * 4 + 1, none⟩) hrb).trans (hcells i hlt).2.1
      have f2 := (HBw.out.cell (p := ⟨rb, ro + i * 4 + 2, none⟩) hrb).trans (hcells i hlt).2.2.1
      have f3 := (HBw.out.cell (p := ⟨rb, ro + i * 4 + 3, none⟩) hrb).trans (hcells i hlt).2.2.2
      have gi : (i : Int) < n := by omega
      have ha := HA.out i
      have hs := HS.out i
      have HRB := Lib.hid hrb
      have HCE := Lib.hid hcells
      clear hcells
      have hW : Below wr.heap.size wr (wr.alloc (.cells #[.int .u64 (A0 i : Nat), .int .u64 (S0 i : Nat), .bool (W0 i), .bool (X0 i)] 58)) := (Below.refl _ _).alloc (Nat.le_refl _) _
      have HBa : Hid (Below wm.heap.size wm (wr.alloc (.cells #[.int .u64 (A0 i : Nat), .int .u64 (S0 i : Nat), .bool (W0 i), .bool (X0 i)] 58))) := Lib.hid (HB.out.trans (hW.mono HB.out.size))
      clear hW
      by_cases hright : rightOne (A0 i) (S0 i)
      · have HRT := Lib.hid hright
        obtain ⟨r1, r2, r3, r4, r5⟩ := hright
        have i1 : (A0 i : Int) % 8 = 0 := by omega
        have i2 : (S0 i : Int) % 8 = 0 := by omega
        have i3 : ((S0 i : Int) == 0) = false := by simp; omega
        have i4 : decide ((16777216 : Int) < (S0 i : Int)) = false := decide_eq_false (by omega)
        have i5 : decide ((281474976710656 : Int) < (A0 i : Int)) = false := decide_eq_false (by omega)
        have i6 : decide ((281474976710656 : Int) < (A0 i : Int) + (S0 i : Int)) = false := decide_eq_false (by omega)
        have i7 : decide ((16777216 : Nat) < S0 i) = false := decide_eq_false (by omega)
        have i8 : decide ((281474976710656 : Nat) < A0 i) = false := decide_eq_false (by omega)
        go_wp2
        have HQ : Hid (∀ q, (wr.alloc (.cells #[.int .u64 (A0 i : Nat), .int .u64 (S0 i : Nat), .bool (W0 i), .bool (X0 i)] 58)).cell? ⟨wr.heap.size, q, none⟩ = (#[Value.int .u64 (A0 i : Nat), .int .u64 (S0 i : Nat), .bool (W0 i), .bool (X0 i)])[q]?) := Lib.hid fun q => World.cell?_alloc_at _ _ _ _ rfl
        have HLT : Hid (wr.heap.size < (wr.alloc (.cells #[.int .u64 (A0 i : Nat), .int .u64 (S0 i : Nat), .bool (W0 i), .bool (X0 i)] 58)).heap.size) := Lib.hid (by simp)
        obtain ⟨b6, hb6⟩ : ∃ b6, wr.heap.size = b6 := ⟨_, rfl⟩
        rw [hb6] at HQ HLT ⊢
        clear hb6
        generalize wr.alloc (.cells #[.int .u64 (A0 i : Nat), .int .u64 (S0 i : Nat), .bool (W0 i), .bool (X0 i)] 58) = wi at HQ HLT HBa ⊢
        go_loopw [2, 3, 7, 8] (fun _ _ s7 _ wk => ∃ k : Nat, k ≤ i ∧ s7 = .int .i64 k ∧ Hid (∀ j, j < k → A0 i + S0 i ≤ A0 j ∨ A0 j + S0 j ≤ A0 i) ∧ Hid (Below wi.heap.size wi wk)) (fun _ _ s7 _ _ => i + 1 - (intOf s7).toNat)
        case atStart => exact ⟨0, by omega, rfl, Lib.hid (fun j hj => by omega), Lib.hid (Below.refl _ _)⟩
        case round =>
          obtain ⟨k, hk, rfl, HKA, HBk⟩ := hrel
          have HBmk : Hid (Below wm.heap.size wm wr) := Lib.hid (HBa.out.trans (HBk.out.mono HBa.out.size))
          by_cases hlk : k < i
          · have hrw : rb < wm.heap.size := by have := HRB.out; have := HB0.out.size; omega
            have hcm : ∀ {p : Addr}, p.block < w.heap.size → wr.cell? p = w.cell? p := fun {p} hp => (HBmk.out.cell (by have := HB0.out.size; omega)).trans (HB0.out.cell hp)
            have e0 := (hcm (p := ⟨rb, ro + k * 4, none⟩) HRB.out).trans (HCE.out k (by omega)).1
            have e1 := (hcm (p := ⟨rb, ro + k * 4 + 1, none⟩) HRB.out).trans (HCE.out k (by omega)).2.1
            have e2 := (hcm (p := ⟨rb, ro + k * 4 + 2, none⟩) HRB.out).trans (HCE.out k (by omega)).2.2.1
            have e3 := (hcm (p := ⟨rb, ro + k * 4 + 3, none⟩) HRB.out).trans (HCE.out k (by omega)).2.2.2
            have b0 := (HBk.out.cell (p := ⟨b6, 0, none⟩) HLT.out).trans (HQ.out 0)
            have b1 := (HBk.out.cell (p := ⟨b6, 1, none⟩) HLT.out).trans (HQ.out 1)
            have hb6 : b6 < wr.heap.size := by have := HLT.out; have := HBk.out.size; omega
            have h0 : (wr.alloc (.cells #[.int .u64 (A0 k : Nat), .int .u64 (S0 k : Nat), .bool (W0 k), .bool (X0 k)] 58)).cell? ⟨b6, 0, none⟩ = _ := (World.cell?_alloc_past _ _ _ hb6).trans b0
            have h1 : (wr.alloc (.cells #[.int .u64 (A0 k : Nat), .int .u64 (S0 k : Nat), .bool (W0 k), .bool (X0 k)] 58)).cell? ⟨b6, 1, none⟩ = _ := (World.cell?_alloc_past _ _ _ hb6).trans b1
            obtain ⟨_, _, k3, k4, k5⟩ := HR.out.1 k hlk
            have gk : (k : Int) < i := by omega
            have gn : (k : Int) < n := by omega
            have w1 : IntKind.u64.wrap ((A0 k : Int) + (S0 k : Int)) = (A0 k : Int) + (S0 k : Int) := by rw [IntKind.wrap_u64]; omega
            have w2 : IntKind.u64.wrap ((A0 i : Int) + (S0 i : Int)) = (A0 i : Int) + (S0 i : Int) := by obtain ⟨_, _, r3, r4, r5⟩ := HRT.out; rw [IntKind.wrap_u64]; omega
            have HBn : Hid (Below wi.heap.size wi (wr.alloc (.cells #[.int .u64 (A0 k : Nat), .int .u64 (S0 k : Nat), .bool (W0 k), .bool (X0 k)] 58))) := Lib.hid (HBk.out.alloc HBk.out.size _)
            have HBx : Hid (Below w.heap.size w (wr.alloc (.cells #[.int .u64 (A0 k : Nat), .int .u64 (S0 k : Nat), .bool (W0 k), .bool (X0 k)] 58))) := Lib.hid ((HB0.out.trans (HBmk.out.mono HB0.out.size)).alloc (by have := HB0.out.size; have := HBmk.out.size; omega) _)
            clear hcm hrw
            by_cases t1 : A0 i < A0 k + S0 k
            · have z1 : decide ((A0 i : Int) < (A0 k : Int) + (S0 k : Int)) = true := decide_eq_true (by omega)
              by_cases t2 : A0 k < A0 i + S0 i
              · have z2 : decide ((A0 k : Int) < (A0 i : Int) + (S0 i : Int)) = true := decide_eq_true (by omega)
                have HNE : Hid (¬ RightD A0 S0 n) := Lib.hid (fun h => by have := h.2 i k hlt (by omega) (by omega); omega)
                go_wp2
                refine bodyPost_ret (v := .tuple #[.pointer none, .int .i64 1]) (by simp [results, Try.results7, go_sem]) rfl ⟨HBx.out, .inr ⟨HNE.out, rfl⟩⟩
              · have z2 : decide ((A0 k : Int) < (A0 i : Int) + (S0 i : Int)) = false := decide_eq_false (by omega)
                go_wp2
                refine ⟨⟨k + 1, by omega, by go_num, Lib.hid (fun j hj => ?_), HBn⟩, by simp [intOf]; omega⟩
                by_cases e : j = k
                · subst e; omega
                · exact HKA.out j (by omega)
            · have z1 : decide ((A0 i : Int) < (A0 k : Int) + (S0 k : Int)) = false := decide_eq_false (by omega)
              go_wp2
              refine ⟨⟨k + 1, by omega, by go_num, Lib.hid (fun j hj => ?_), HBn⟩, by simp [intOf]; omega⟩
              by_cases e : j = k
              · subst e; omega
              · exact HKA.out j (by omega)
          · obtain rfl : k = i := by omega
            go_wp2
            exact ⟨⟨k + 1, by omega, by go_num, Lib.hid (HR.out.step HRT.out HKA.out), HBmk⟩, by simp [intOf]; omega⟩
      · have HNE : Hid (¬ RightD A0 S0 n) := Lib.hid (fun h => hright (h.1 i hlt))
        have HBx : Hid (Below w.heap.size w (wr.alloc (.cells #[.int .u64 (A0 i : Nat), .int .u64 (S0 i : Nat), .bool (W0 i), .bool (X0 i)] 58))) := Lib.hid (HB0.out.trans (HBa.out.mono HB0.out.size))
        unfold rightOne at hright
        by_cases c0 : A0 i % 8 = 0
        · have y00 : (A0 i : Int) % 8 = 0 := by omega
          by_cases c1 : S0 i % 8 = 0
          · have y10 : (S0 i : Int) % 8 = 0 := by omega
            by_cases c2 : 0 < S0 i
            · have y20 : ((S0 i : Int) == 0) = false := by simp; omega
              by_cases c3 : S0 i ≤ 16777216
              · have y30 : decide ((16777216 : Int) < (S0 i : Int)) = false := decide_eq_false (by omega)
                have y31 : decide ((16777216 : Nat) < S0 i) = false := decide_eq_false (by omega)
                by_cases c4 : A0 i ≤ 281474976710656
                · have y40 : decide ((281474976710656 : Int) < (A0 i : Int)) = false := decide_eq_false (by omega)
                  have y41 : decide ((281474976710656 : Nat) < A0 i) = false := decide_eq_false (by omega)
                  have y5 : IntKind.u64.wrap ((A0 i : Int) + (S0 i : Int)) = (A0 i : Int) + (S0 i : Int) := by rw [IntKind.wrap_u64]; omega
                  have y6 : decide ((281474976710656 : Int) < (A0 i : Int) + (S0 i : Int)) = true := decide_eq_true (by omega)
                  go_wp2
                  refine bodyPost_ret (v := .tuple #[.pointer none, .int .i64 1]) (by simp [results, Try.results7, go_sem]) rfl ⟨HBx.out, .inr ⟨HNE.out, rfl⟩⟩
                · have x40 : decide ((281474976710656 : Int) < (A0 i : Int)) = true := decide_eq_true (by omega)
                  have x41 : decide ((281474976710656 : Nat) < A0 i) = true := decide_eq_true (by omega)
                  go_wp2
                  refine bodyPost_ret (v := .tuple #[.pointer none, .int .i64 1]) (by simp [results, Try.results7, go_sem]) rfl ⟨HBx.out, .inr ⟨HNE.out, rfl⟩⟩
              · have x30 : decide ((16777216 : Int) < (S0 i : Int)) = true := decide_eq_true (by omega)
                have x31 : decide ((16777216 : Nat) < S0 i) = true := decide_eq_true (by omega)
                go_wp2
                refine bodyPost_ret (v := .tuple #[.pointer none, .int .i64 1]) (by simp [results, Try.results7, go_sem]) rfl ⟨HBx.out, .inr ⟨HNE.out, rfl⟩⟩
            · have x20 : ((S0 i : Int) == 0) = true := by simp; omega
              have x21 : (S0 i == 0) = true := by simp; omega
              go_wp2
              refine bodyPost_ret (v := .tuple #[.pointer none, .int .i64 1]) (by simp [results, Try.results7, go_sem]) rfl ⟨HBx.out, .inr ⟨HNE.out, rfl⟩⟩
          · have x10 : ((S0 i : Int) % 8 != 0) = true := by simp; omega
            have x11 : ((S0 i : Int) % 8 == 0) = false := by simp; omega
            go_wp2
            refine bodyPost_ret (v := .tuple #[.pointer none, .int .i64 1]) (by simp [results, Try.results7, go_sem]) rfl ⟨HBx.out, .inr ⟨HNE.out, rfl⟩⟩
        · have x00 : ((A0 i : Int) % 8 != 0) = true := by simp; omega
          have x01 : ((A0 i : Int) % 8 == 0) = false := by simp; omega
          go_wp2
          refine bodyPost_ret (v := .tuple #[.pointer none, .int .i64 1]) (by simp [results, Try.results7, go_sem]) rfl ⟨HBx.out, .inr ⟨HNE.out, rfl⟩⟩
    · have hin : i = n := by omega
      rw [hin] at HR ⊢
      clear hlt hi hin i
      have HTn := Lib.hid (HT0.out.past HB.out)
      clear HT0
      go_wp2
      go_loopw [9, 10, 11] (fun s9 _ _ wr => ∃ (i : Nat) (A S : Nat → Nat) (W X : Nat → Bool) (v : Value) (B C : Nat → Nat), i ≤ n ∧ s9 = .int .i64 i ∧ Hid (TwAt 70 72 wr w.heap.size (zMe i A S W X) i v B C) ∧ Hid (Dat i A0 S0 W0 X0 A S W X) ∧ Hid (Up A i) ∧ Hid (Below w.heap.size w wr)) (fun s9 _ _ _ => n + 1 - (intOf s9).toNat)
      case atStart => exact ⟨0, A0, S0, W0, X0, _, _, _, by omega, rfl, HTn, Lib.hid (Dat.refl _ _ _ _ _), Lib.hid (fun x y _ h => by omega), HBw⟩
      case round =>
        clear HTn HB HBw
        obtain ⟨i, A, S, W, X, v, B, C, hi, rfl, HT, HD, HU, HB⟩ := hrel
        by_cases hlt : i < n
        · obtain ⟨rb, ro, rfl, hrb, hcells⟩ := HP.out (by omega)
          have HRB := Lib.hid hrb
          have HC := Lib.hid (hcells i hlt)
          have gi : (i : Int) < n := by omega
          clear hcells
          go_wp2
          generalize hwx : wr = wx at HT HB ⊢
          go_loopw [10] (fun s10 wk => ∃ k : Nat, k ≤ i ∧ s10 = .int .i64 k ∧ Hid (∀ j, j < k → A j < A0 i) ∧ Hid (TwAt 70 72 wk w.heap.size (zMe i A S W X) i v B C) ∧ Hid (Below w.heap.size w wk)) (fun s10 _ => i + 1 - (intOf s10).toNat)
          case atStart => exact ⟨0, by omega, rfl, Lib.hid (fun j hj => by omega), HT, HB⟩
          case round =>
            clear hwx HT HB wx
            obtain ⟨k, hk, rfl, HKA, HT, HB⟩ := hrel
            have hmbr : w.heap.size ≤ wr.heap.size := HB.out.size
            go_upto_region 20 with (fail)
            go_cut [116] from 93 to 116 (fun s wy => s = .bool (decide (k < i ∧ A k < A0 i)) ∧ Hid (TwAt 70 72 wy w.heap.size (zMe i A S W X) i v B C) ∧ Hid (Below w.heap.size w wy))
            case first =>
              have hbd : Below wr.heap.size wr wr.drew := below_drewN (Below.refl _ _) 1
              have HTd := Lib.hid (HT.out.past hbd)
              have HBd := Lib.hid (HB.out.trans (hbd.mono HB.out.size))
              clear hbd
              by_cases hlk : k < i
              · obtain ⟨g, cp, rfl, _, hgl⟩ := own_pos HT.out.ars (by omega)
                have HSS : Hid (wr.drew.cell? ⟨w.heap.size, 0, none⟩ = some (.slice (some ⟨g, 0, none⟩) i cp) ∧ wr.drew.cell? ⟨g, k * 5, none⟩ = some (.int .u64 (A k : Nat)) ∧ wr.drew.cell? ⟨rb, ro + i * 4, none⟩ = some (.int .u64 (A0 i : Nat))) := Lib.hid ⟨by rw [cell_of_row _ _ 0 #[_] 70 _ HTd.out.row]; rfl, (own_cells HTd.out.ars).1 _ _ (arL_at _ _ _ k 0 (by decide) i hlk), (HBd.out.cell (p := ⟨rb, ro + i * 4, none⟩) HRB.out).trans HC.out.1⟩
                have gk : (k : Int) < i := by omega
                by_cases ht : A k < A0 i
                · have z1 : decide ((A k : Int) < (A0 i : Int)) = true := decide_eq_true (by omega)
                  refine wp_region_held_drew (S := fun w' => (w'.cell? ⟨w.heap.size, 0, none⟩ = some (.slice (some ⟨g, 0, none⟩) i cp) ∧ w'.cell? ⟨g, k * 5, none⟩ = some (.int .u64 (A k : Nat)) ∧ w'.cell? ⟨rb, ro + i * 4, none⟩ = some (.int .u64 (A0 i : Nat)))) (by kernel_rfl) HSS.out (fun hHeld => ?_)
                  refine wpAnyH_take (i := 0) (oi := { dst := some 93, op := Go.Op.move (Go.Operand.tmp 10), type := 3, pos := "ref.go:42", after := #[], guard := none }) (v := ?_) rfl (by kernel_rfl) (by kernel_rfl) (by kernel_rfl) (fun _ _ _ h => h) (Or.inl ⟨by rfl, ?_⟩) (by assumption) ?_
                  rotate_left
                  · (intro w0 hSw; (try dsimp only at hSw); go_split_ands; go_simp; with_reducible rfl)
                  try simp only [Act.put, List.setIfInBounds_toArray, List.set_cons_zero, List.set_cons_succ]
                  refine wpAnyH_take (i := 1) (oi := { dst := some 94, op := Go.Op.move (Go.Operand.tmp 4), type := 31, pos := "ref.go:42", after := #[], guard := none }) (v := ?_) rfl (by kernel_rfl) (by kernel_rfl) (by kernel_rfl) (fun _ _ _ h => h) (Or.inl ⟨by rfl, ?_⟩) (by assumption) ?_
                  rotate_left
                  · (intro w0 hSw; (try dsimp only at hSw); go_split_ands; go_simp; with_reducible rfl)
                  try simp only [Act.put, List.setIfInBounds_toArray, List.set_cons_zero, List.set_cons_succ]
                  refine wpAnyH_take (i := 2) (oi := { dst := some 95, op := Go.Op.nilCheck (Go.Operand.tmp 94), type := 0, pos := "ref.go:42", after := #[{ on := 1, ground := Go.Ground.data }], guard := none }) (v := ?_) rfl (by kernel_rfl) (by kernel_rfl) (by kernel_rfl) (fun _ _ _ h => h) (Or.inl ⟨by rfl, ?_⟩) (by assumption) ?_
                  rotate_left
                  · (intro w0 hSw; (try dsimp only at hSw); go_split_ands; go_simp; with_reducible rfl)
                  try simp only [Act.put, List.setIfInBounds_toArray, List.set_cons_zero, List.set_cons_succ]
                  refine wpAnyH_take (i := 3) (oi := { dst := some 96, op := Go.Op.fieldAddr 70 (Go.Operand.tmp 95) 0, type := 0, pos := "ref.go:42", after := #[{ on := 2, ground := Go.Ground.data }], guard := none }) (v := ?_) rfl (by kernel_rfl) (by kernel_rfl) (by kernel_rfl) (fun _ _ _ h => h) (Or.inl ⟨by rfl, ?_⟩) (by assumption) ?_
                  rotate_left
                  · (intro w0 hSw; (try dsimp only at hSw); go_split_ands; go_simp; with_reducible rfl)
                  try simp only [Act.put, List.setIfInBounds_toArray, List.set_cons_zero, List.set_cons_succ]
                  refine wpAnyH_take (i := 4) (oi := { dst := some 97, op := Go.Op.load 68 (Go.Operand.tmp 96), type := 68, pos := "ref.go:42", after := #[{ on := 3, ground := Go.Ground.data }], guard := none }) (v := ?_) rfl (by kernel_rfl) (by kernel_rfl) (by kernel_rfl) (fun _ _ _ h => h) (Or.inl ⟨by rfl, ?_⟩) (by assumption) ?_
                  rotate_left
                  · (intro w0 hSw; (try dsimp only at hSw); go_split_ands; go_simp; with_reducible rfl)
                  try simp only [Act.put, List.setIfInBounds_toArray, List.set_cons_zero, List.set_cons_succ]
                  refine wpAnyH_take (i := 5) (oi := { dst := some 98, op := Go.Op.call { callee := Go.Callee.builtin Go.Builtin.len, args := #[Go.Operand.tmp 97], argTypes := #[68] }, type := 3, pos := "ref.go:42", after := #[{ on := 4, ground := Go.Ground.data }], guard := none }) (v := ?_) rfl (by kernel_rfl) (by kernel_rfl) (by kernel_rfl) (fun _ _ _ h => h) (Or.inl ⟨by rfl, ?_⟩) (by assumption) ?_
                  rotate_left
                  · (intro w0 hSw; (try dsimp only at hSw); go_split_ands; go_simp; with_reducible rfl)
                  try simp only [Act.put, List.setIfInBounds_toArray, List.set_cons_zero, List.set_cons_succ]
                  refine wpAnyH_take (i := 6) (oi := { dst := some 99, op := Go.Op.binOp Go.BinOp.lss 3 (Go.Operand.tmp 93) (Go.Operand.tmp 98) 3, type := 4, pos := "ref.go:42", after := #[{ on := 0, ground := Go.Ground.data }, { on := 5, ground := Go.Ground.data }], guard := none }) (v := ?_) rfl (by kernel_rfl) (by kernel_rfl) (by kernel_rfl) (fun _ _ _ h => h) (Or.inl ⟨by rfl, ?_⟩) (by assumption) ?_
                  rotate_left
                  · (intro w0 hSw; (try dsimp only at hSw); go_split_ands; go_simp; with_reducible rfl)
                  try simp only [Act.put, List.setIfInBounds_toArray, List.set_cons_zero, List.set_cons_succ]
                  refine wpAnyH_take (i := 7) (oi := { dst := some 100, op := Go.Op.move (Go.Operand.tmp 99), type := 4, pos := "ref.go:42", after := #[{ on := 6, ground := Go.Ground.data }], guard := none }) (v := ?_) rfl (by kernel_rfl) (by kernel_rfl) (by kernel_rfl) (fun _ _ _ h => h) (Or.inl ⟨by rfl, ?_⟩) (by assumption) ?_
                  rotate_left
                  · (intro w0 hSw; (try dsimp only at hSw); go_split_ands; go_simp; with_reducible rfl)
                  try simp only [Act.put, List.setIfInBounds_toArray, List.set_cons_zero, List.set_cons_succ]
                  refine wpAnyH_take (i := 8) (oi := { dst := some 101, op := Go.Op.move (Go.Operand.tmp 4), type := 31, pos := "ref.go:42", after := #[{ on := 7, ground := Go.Ground.guard }], guard := some (7, true) }) (v := ?_) rfl (by kernel_rfl) (by kernel_rfl) (by kernel_rfl) (fun _ _ _ h => h) (Or.inl ⟨by rfl, ?_⟩) (by assumption) ?_
                  rotate_left
                  · (intro w0 hSw; (try dsimp only at hSw); go_split_ands; go_simp; with_reducible rfl)
                  try simp only [Act.put, List.setIfInBounds_toArray, List.set_cons_zero, List.set_cons_succ]
                  refine wpAnyH_take (i := 9) (oi := { dst := some 102, op := Go.Op.nilCheck (Go.Operand.tmp 101), type := 0, pos := "ref.go:42", after := #[{ on := 8, ground := Go.Ground.data }, { on := 7, ground := Go.Ground.guard }], guard := some (7, true) }) (v := ?_) rfl (by kernel_rfl) (by kernel_rfl) (by kernel_rfl) (fun _ _ _ h => h) (Or.inl ⟨by rfl, ?_⟩) (by assumption) ?_
                  rotate_left
                  · (intro w0 hSw; (try dsimp only at hSw); go_split_ands; go_simp; with_reducible rfl)
                  try simp only [Act.put, List.setIfInBounds_toArray, List.set_cons_zero, List.set_cons_succ]
                  refine wpAnyH_take (i := 10) (oi := { dst := some 103, op := Go.Op.fieldAddr 70 (Go.Operand.tmp 102) 0, type := 0, pos := "ref.go:42", after := #[{ on := 9, ground := Go.Ground.data }, { on := 7, ground := Go.Ground.guard }], guard := some (7, true) }) (v := ?_) rfl (by kernel_rfl) (by kernel_rfl) (by kernel_rfl) (fun _ _ _ h => h) (Or.inl ⟨by rfl, ?_⟩) (by assumption) ?_
                  rotate_left
                  · (intro w0 hSw; (try dsimp only at hSw); go_split_ands; go_simp; with_reducible rfl)
                  try simp only [Act.put, List.setIfInBounds_toArray, List.set_cons_zero, List.set_cons_succ]
                  refine wpAnyH_take (i := 11) (oi := { dst := some 104, op := Go.Op.load 68 (Go.Operand.tmp 103), type := 68, pos := "ref.go:42", after := #[{ on := 10, ground := Go.Ground.data }, { on := 7, ground := Go.Ground.guard }], guard := some (7, true) }) (v := ?_) rfl (by kernel_rfl) (by kernel_rfl) (by kernel_rfl) (fun _ _ _ h => h) (Or.inl ⟨by rfl, ?_⟩) (by assumption) ?_
                  rotate_left
                  · (intro w0 hSw; (try dsimp only at hSw); go_split_ands; go_simp; with_reducible rfl)
                  try simp only [Act.put, List.setIfInBounds_toArray, List.set_cons_zero, List.set_cons_succ]
                  refine wpAnyH_take (i := 12) (oi := { dst := some 105, op := Go.Op.move (Go.Operand.tmp 10), type := 3, pos := "ref.go:42", after := #[{ on := 7, ground := Go.Ground.guard }], guard := some (7, true) }) (v := ?_) rfl (by kernel_rfl) (by kernel_rfl) (by kernel_rfl) (fun _ _ _ h => h) (Or.inl ⟨by rfl, ?_⟩) (by assumption) ?_
                  rotate_left
                  · (intro w0 hSw; (try dsimp only at hSw); go_split_ands; go_simp; with_reducible rfl)
                  try simp only [Act.put, List.setIfInBounds_toArray, List.set_cons_zero, List.set_cons_succ]
                  refine wpAnyH_take (i := 13) (oi := { dst := some 106, op := Go.Op.indexAddr 68 (Go.Operand.tmp 104) (Go.Operand.tmp 105), type := 0, pos := "ref.go:42", after := #[{ on := 11, ground := Go.Ground.data }, { on := 12, ground := Go.Ground.data }, { on := 7, ground := Go.Ground.guard }], guard := some (7, true) }) (v := ?_) rfl (by kernel_rfl) (by kernel_rfl) (by kernel_rfl) (fun _ _ _ h => h) (Or.inl ⟨by rfl, ?_⟩) (by assumption) ?_
                  rotate_left
                  · (intro w0 hSw; (try dsimp only at hSw); go_split_ands; go_simp; with_reducible rfl)
                  try simp only [Act.put, List.setIfInBounds_toArray, List.set_cons_zero, List.set_cons_succ]
                  refine wpAnyH_take (i := 14) (oi := { dst := some 107, op := Go.Op.fieldAddr 72 (Go.Operand.tmp 106) 0, type := 0, pos := "ref.go:42", after := #[{ on := 13, ground := Go.Ground.data }, { on := 7, ground := Go.Ground.guard }], guard := some (7, true) }) (v := ?_) rfl (by kernel_rfl) (by kernel_rfl) (by kernel_rfl) (fun _ _ _ h => h) (Or.inl ⟨by rfl, ?_⟩) (by assumption) ?_
                  rotate_left
                  · (intro w0 hSw; (try dsimp only at hSw); go_split_ands; go_simp; with_reducible rfl)
                  try simp only [Act.put, List.setIfInBounds_toArray, List.set_cons_zero, List.set_cons_succ]
                  refine wpAnyH_take (i := 15) (oi := { dst := some 108, op := Go.Op.fieldAddr 58 (Go.Operand.tmp 107) 0, type := 0, pos := "ref.go:42", after := #[{ on := 14, ground := Go.Ground.data }, { on := 7, ground := Go.Ground.guard }], guard := some (7, true) }) (v := ?_) rfl (by kernel_rfl) (by kernel_rfl) (by kernel_rfl) (fun _ _ _ h => h) (Or.inl ⟨by rfl, ?_⟩) (by assumption) ?_
                  rotate_left
                  · (intro w0 hSw; (try dsimp only at hSw); go_split_ands; go_simp; with_reducible rfl)
                  try simp only [Act.put, List.setIfInBounds_toArray, List.set_cons_zero, List.set_cons_succ]
                  refine wpAnyH_take (i := 16) (oi := { dst := some 109, op := Go.Op.load 35 (Go.Operand.tmp 108), type := 35, pos := "ref.go:42", after := #[{ on := 15, ground := Go.Ground.data }, { on := 7, ground := Go.Ground.guard }], guard := some (7, true) }) (v := ?_) rfl (by kernel_rfl) (by kernel_rfl) (by kernel_rfl) (fun _ _ _ h => h) (Or.inl ⟨by rfl, ?_⟩) (by assumption) ?_
                  rotate_left
                  · (intro w0 hSw; (try dsimp only at hSw); go_split_ands; go_simp; with_reducible rfl)
                  try simp only [Act.put, List.setIfInBounds_toArray, List.set_cons_zero, List.set_cons_succ]
                  refine wpAnyH_take (i := 17) (oi := { dst := some 110, op := Go.Op.move (Go.Operand.tmp 0), type := 29, pos := "ref.go:42", after := #[{ on := 7, ground := Go.Ground.guard }], guard := some (7, true) }) (v := ?_) rfl (by kernel_rfl) (by kernel_rfl) (by kernel_rfl) (fun _ _ _ h => h) (Or.inl ⟨by rfl, ?_⟩) (by assumption) ?_
                  rotate_left
                  · (intro w0 hSw; (try dsimp only at hSw); go_split_ands; go_simp; with_reducible rfl)
                  try simp only [Act.put, List.setIfInBounds_toArray, List.set_cons_zero, List.set_cons_succ]
                  refine wpAnyH_take (i := 18) (oi := { dst := some 111, op := Go.Op.move (Go.Operand.tmp 9), type := 3, pos := "ref.go:42", after := #[{ on := 7, ground := Go.Ground.guard }], guard := some (7, true) }) (v := ?_) rfl (by kernel_rfl) (by kernel_rfl) (by kernel_rfl) (fun _ _ _ h => h) (Or.inl ⟨by rfl, ?_⟩) (by assumption) ?_
                  rotate_left
                  · (intro w0 hSw; (try dsimp only at hSw); go_split_ands; go_simp; with_reducible rfl)
                  try simp only [Act.put, List.setIfInBounds_toArray, List.set_cons_zero, List.set_cons_succ]
                  refine wpAnyH_take (i := 19) (oi := { dst := some 112, op := Go.Op.indexAddr 29 (Go.Operand.tmp 110) (Go.Operand.tmp 111), type := 0, pos := "ref.go:42", after := #[{ on := 17, ground := Go.Ground.data }, { on := 18, ground := Go.Ground.data }, { on := 7, ground := Go.Ground.guard }], guard := some (7, true) }) (v := ?_) rfl (by kernel_rfl) (by kernel_rfl) (by kernel_rfl) (fun _ _ _ h => h) (Or.inl ⟨by rfl, ?_⟩) (by assumption) ?_
                  rotate_left
                  · (intro w0 hSw; (try dsimp only at hSw); go_split_ands; go_simp; with_reducible rfl)
                  try simp only [Act.put, List.setIfInBounds_toArray, List.set_cons_zero, List.set_cons_succ]
                  refine wpAnyH_take (i := 20) (oi := { dst := some 113, op := Go.Op.fieldAddr 58 (Go.Operand.tmp 112) 0, type := 0, pos := "ref.go:42", after := #[{ on := 19, ground := Go.Ground.data }, { on := 7, ground := Go.Ground.guard }], guard := some (7, true) }) (v := ?_) rfl (by kernel_rfl) (by kernel_rfl) (by kernel_rfl) (fun _ _ _ h => h) (Or.inl ⟨by rfl, ?_⟩) (by assumption) ?_
                  rotate_left
                  · (intro w0 hSw; (try dsimp only at hSw); go_split_ands; go_simp; with_reducible rfl)
                  try simp only [Act.put, List.setIfInBounds_toArray, List.set_cons_zero, List.set_cons_succ]
                  refine wpAnyH_take (i := 21) (oi := { dst := some 114, op := Go.Op.load 35 (Go.Operand.tmp 113), type := 35, pos := "ref.go:42", after := #[{ on := 20, ground := Go.Ground.data }, { on := 7, ground := Go.Ground.guard }], guard := some (7, true) }) (v := ?_) rfl (by kernel_rfl) (by kernel_rfl) (by kernel_rfl) (fun _ _ _ h => h) (Or.inl ⟨by rfl, ?_⟩) (by assumption) ?_
                  rotate_left
                  · (intro w0 hSw; (try dsimp only at hSw); go_split_ands; go_simp; with_reducible rfl)
                  try simp only [Act.put, List.setIfInBounds_toArray, List.set_cons_zero, List.set_cons_succ]
                  refine wpAnyH_take (i := 22) (oi := { dst := some 115, op := Go.Op.binOp Go.BinOp.lss 35 (Go.Operand.tmp 109) (Go.Operand.tmp 114) 35, type := 4, pos := "ref.go:42", after := #[{ on := 16, ground := Go.Ground.data }, { on := 21, ground := Go.Ground.data }, { on := 7, ground := Go.Ground.guard }], guard := some (7, true) }) (v := ?_) rfl (by kernel_rfl) (by kernel_rfl) (by kernel_rfl) (fun _ _ _ h => h) (Or.inl ⟨by rfl, ?_⟩) (by assumption) ?_
                  rotate_left
                  · (intro w0 hSw; (try dsimp only at hSw); go_split_ands; go_simp; with_reducible rfl)
                  try simp only [Act.put, List.setIfInBounds_toArray, List.set_cons_zero, List.set_cons_succ]
                  refine wpAnyH_take (i := 23) (oi := { dst := some 116, op := Go.Op.pick (Go.Operand.tmp 100) (Go.Operand.tmp 115) (Go.Operand.const (Go.Value.bool false)), type := 4, pos := "ref.go:42", after := #[{ on := 7, ground := Go.Ground.data }, { on := 22, ground := Go.Ground.data }], guard := none }) (v := ?_) rfl (by kernel_rfl) (by kernel_rfl) (by kernel_rfl) (fun _ _ _ h => h) (Or.inl ⟨by rfl, ?_⟩) (by assumption) ?_
                  rotate_left
                  · (intro w0 hSw; (try dsimp only at hSw); go_split_ands; go_simp; with_reducible rfl)
                  try simp only [Act.put, List.setIfInBounds_toArray, List.set_cons_zero, List.set_cons_succ]
                  refine wpAnyH_done (by kernel_rfl) ?_ _
                  clear hHeld
                  go_wp2_with fail
                  go_meet
                  case rel => exact ⟨by rw [decide_eq_true (show k < i ∧ A k < A0 i from ⟨hlk, ht⟩)], HTd, HBd⟩
                · have z1 : decide ((A k : Int) < (A0 i : Int)) = false := decide_eq_false (by omega)
                  refine wp_region_held_drew (S := fun w' => (w'.cell? ⟨w.heap.size, 0, none⟩ = some (.slice (some ⟨g, 0, none⟩) i cp) ∧ w'.cell? ⟨g, k * 5, none⟩ = some (.int .u64 (A k : Nat)) ∧ w'.cell? ⟨rb, ro + i * 4, none⟩ = some (.int .u64 (A0 i : Nat)))) (by kernel_rfl) HSS.out (fun hHeld => ?_)
                  refine wpAnyH_take (i := 0) (oi := { dst := some 93, op := Go.Op.move (Go.Operand.tmp 10), type := 3, pos := "ref.go:42", after := #[], guard := none }) (v := ?_) rfl (by kernel_rfl) (by kernel_rfl) (by kernel_rfl) (fun _ _ _ h => h) (Or.inl ⟨by rfl, ?_⟩) (by assumption) ?_
                  rotate_left
                  · (intro w0 hSw; (try dsimp only at hSw); go_split_ands; go_simp; with_reducible rfl)
                  try simp only [Act.put, List.setIfInBounds_toArray, List.set_cons_zero, List.set_cons_succ]
                  refine wpAnyH_take (i := 1) (oi := { dst := some 94, op := Go.Op.move (Go.Operand.tmp 4), type := 31, pos := "ref.go:42", after := #[], guard := none }) (v := ?_) rfl (by kernel_rfl) (by kernel_rfl) (by kernel_rfl) (fun _ _ _ h => h) (Or.inl ⟨by rfl, ?_⟩) (by assumption) ?_
                  rotate_left
                  · (intro w0 hSw; (try dsimp only at hSw); go_split_ands; go_simp; with_reducible rfl)
                  try simp only [Act.put, List.setIfInBounds_toArray, List.set_cons_zero, List.set_cons_succ]
                  refine wpAnyH_take (i := 2) (oi := { dst := some 95, op := Go.Op.nilCheck (Go.Operand.tmp 94), type := 0, pos := "ref.go:42", after := #[{ on := 1, ground := Go.Ground.data }], guard := none }) (v := ?_) rfl (by kernel_rfl) (by kernel_rfl) (by kernel_rfl) (fun _ _ _ h => h) (Or.inl ⟨by rfl, ?_⟩) (by assumption) ?_
                  rotate_left
                  · (intro w0 hSw; (try dsimp only at hSw); go_split_ands; go_simp; with_reducible rfl)
                  try simp only [Act.put, List.setIfInBounds_toArray, List.set_cons_zero, List.set_cons_succ]
                  refine wpAnyH_take (i := 3) (oi := { dst := some 96, op := Go.Op.fieldAddr 70 (Go.Operand.tmp 95) 0, type := 0, pos := "ref.go:42", after := #[{ on := 2, ground := Go.Ground.data }], guard := none }) (v := ?_) rfl (by kernel_rfl) (by kernel_rfl) (by kernel_rfl) (fun _ _ _ h => h) (Or.inl ⟨by rfl, ?_⟩) (by assumption) ?_
                  rotate_left
                  · (intro w0 hSw; (try dsimp only at hSw); go_split_ands; go_simp; with_reducible rfl)
                  try simp only [Act.put, List.setIfInBounds_toArray, List.set_cons_zero, List.set_cons_succ]
                  refine wpAnyH_take (i := 4) (oi := { dst := some 97, op := Go.Op.load 68 (Go.Operand.tmp 96), type := 68, pos := "ref.go:42", after := #[{ on := 3, ground := Go.Ground.data }], guard := none }) (v := ?_) rfl (by kernel_rfl) (by kernel_rfl) (by kernel_rfl) (fun _ _ _ h => h) (Or.inl ⟨by rfl, ?_⟩) (by assumption) ?_
                  rotate_left
                  · (intro w0 hSw; (try dsimp only at hSw); go_split_ands; go_simp; with_reducible rfl)
                  try simp only [Act.put, List.setIfInBounds_toArray, List.set_cons_zero, List.set_cons_succ]
                  refine wpAnyH_take (i := 5) (oi := { dst := some 98, op := Go.Op.call { callee := Go.Callee.builtin Go.Builtin.len, args := #[Go.Operand.tmp 97], argTypes := #[68] }, type := 3, pos := "ref.go:42", after := #[{ on := 4, ground := Go.Ground.data }], guard := none }) (v := ?_) rfl (by kernel_rfl) (by kernel_rfl) (by kernel_rfl) (fun _ _ _ h => h) (Or.inl ⟨by rfl, ?_⟩) (by assumption) ?_
                  rotate_left
                  · (intro w0 hSw; (try dsimp only at hSw); go_split_ands; go_simp; with_reducible rfl)
                  try simp only [Act.put, List.setIfInBounds_toArray, List.set_cons_zero, List.set_cons_succ]
                  refine wpAnyH_take (i := 6) (oi := { dst := some 99, op := Go.Op.binOp Go.BinOp.lss 3 (Go.Operand.tmp 93) (Go.Operand.tmp 98) 3, type := 4, pos := "ref.go:42", after := #[{ on := 0, ground := Go.Ground.data }, { on := 5, ground := Go.Ground.data }], guard := none }) (v := ?_) rfl (by kernel_rfl) (by kernel_rfl) (by kernel_rfl) (fun _ _ _ h => h) (Or.inl ⟨by rfl, ?_⟩) (by assumption) ?_
                  rotate_left
                  · (intro w0 hSw; (try dsimp only at hSw); go_split_ands; go_simp; with_reducible rfl)
                  try simp only [Act.put, List.setIfInBounds_toArray, List.set_cons_zero, List.set_cons_succ]
                  refine wpAnyH_take (i := 7) (oi := { dst := some 100, op := Go.Op.move (Go.Operand.tmp 99), type := 4, pos := "ref.go:42", after := #[{ on := 6, ground := Go.Ground.data }], guard := none }) (v := ?_) rfl (by kernel_rfl) (by kernel_rfl) (by kernel_rfl) (fun _ _ _ h => h) (Or.inl ⟨by rfl, ?_⟩) (by assumption) ?_
                  rotate_left
                  · (intro w0 hSw; (try dsimp only at hSw); go_split_ands; go_simp; with_reducible rfl)
                  try simp only [Act.put, List.setIfInBounds_toArray, List.set_cons_zero, List.set_cons_succ]
                  refine wpAnyH_take (i := 8) (oi := { dst := some 101, op := Go.Op.move (Go.Operand.tmp 4), type := 31, pos := "ref.go:42", after := #[{ on := 7, ground := Go.Ground.guard }], guard := some (7, true) }) (v := ?_) rfl (by kernel_rfl) (by kernel_rfl) (by kernel_rfl) (fun _ _ _ h => h) (Or.inl ⟨by rfl, ?_⟩) (by assumption) ?_
                  rotate_left
                  · (intro w0 hSw; (try dsimp only at hSw); go_split_ands; go_simp; with_reducible rfl)
                  try simp only [Act.put, List.setIfInBounds_toArray, List.set_cons_zero, List.set_cons_succ]
                  refine wpAnyH_take (i := 9) (oi := { dst := some 102, op := Go.Op.nilCheck (Go.Operand.tmp 101), type := 0, pos := "ref.go:42", after := #[{ on := 8, ground := Go.Ground.data }, { on := 7, ground := Go.Ground.guard }], guard := some (7, true) }) (v := ?_) rfl (by kernel_rfl) (by kernel_rfl) (by kernel_rfl) (fun _ _ _ h => h) (Or.inl ⟨by rfl, ?_⟩) (by assumption) ?_
                  rotate_left
                  · (intro w0 hSw; (try dsimp only at hSw); go_split_ands; go_simp; with_reducible rfl)
                  try simp only [Act.put, List.setIfInBounds_toArray, List.set_cons_zero, List.set_cons_succ]
                  refine wpAnyH_take (i := 10) (oi := { dst := some 103, op := Go.Op.fieldAddr 70 (Go.Operand.tmp 102) 0, type := 0, pos := "ref.go:42", after := #[{ on := 9, ground := Go.Ground.data }, { on := 7, ground := Go.Ground.guard }], guard := some (7, true) }) (v := ?_) rfl (by kernel_rfl) (by kernel_rfl) (by kernel_rfl) (fun _ _ _ h => h) (Or.inl ⟨by rfl, ?_⟩) (by assumption) ?_
                  rotate_left
                  · (intro w0 hSw; (try dsimp only at hSw); go_split_ands; go_simp; with_reducible rfl)
                  try simp only [Act.put, List.setIfInBounds_toArray, List.set_cons_zero, List.set_cons_succ]
                  refine wpAnyH_take (i := 11) (oi := { dst := some 104, op := Go.Op.load 68 (Go.Operand.tmp 103), type := 68, pos := "ref.go:42", after := #[{ on := 10, ground := Go.Ground.data }, { on := 7, ground := Go.Ground.guard }], guard := some (7, true) }) (v := ?_) rfl (by kernel_rfl) (by kernel_rfl) (by kernel_rfl) (fun _ _ _ h => h) (Or.inl ⟨by rfl, ?_⟩) (by assumption) ?_
                  rotate_left
                  · (intro w0 hSw; (try dsimp only at hSw); go_split_ands; go_simp; with_reducible rfl)
                  try simp only [Act.put, List.setIfInBounds_toArray, List.set_cons_zero, List.set_cons_succ]
                  refine wpAnyH_take (i := 12) (oi := { dst := some 105, op := Go.Op.move (Go.Operand.tmp 10), type := 3, pos := "ref.go:42", after := #[{ on := 7, ground := Go.Ground.guard }], guard := some (7, true) }) (v := ?_) rfl (by kernel_rfl) (by kernel_rfl) (by kernel_rfl) (fun _ _ _ h => h) (Or.inl ⟨by rfl, ?_⟩) (by assumption) ?_
                  rotate_left
                  · (intro w0 hSw; (try dsimp only at hSw); go_split_ands; go_simp; with_reducible rfl)
                  try simp only [Act.put, List.setIfInBounds_toArray, List.set_cons_zero, List.set_cons_succ]
                  refine wpAnyH_take (i := 13) (oi := { dst := some 106, op := Go.Op.indexAddr 68 (Go.Operand.tmp 104) (Go.Operand.tmp 105), type := 0, pos := "ref.go:42", after := #[{ on := 11, ground := Go.Ground.data }, { on := 12, ground := Go.Ground.data }, { on := 7, ground := Go.Ground.guard }], guard := some (7, true) }) (v := ?_) rfl (by kernel_rfl) (by kernel_rfl) (by kernel_rfl) (fun _ _ _ h => h) (Or.inl ⟨by rfl, ?_⟩) (by assumption) ?_
                  rotate_left
                  · (intro w0 hSw; (try dsimp only at hSw); go_split_ands; go_simp; with_reducible rfl)
                  try simp only [Act.put, List.setIfInBounds_toArray, List.set_cons_zero, List.set_cons_succ]
                  refine wpAnyH_take (i := 14) (oi := { dst := some 107, op := Go.Op.fieldAddr 72 (Go.Operand.tmp 106) 0, type := 0, pos := "ref.go:42", after := #[{ on := 13, ground := Go.Ground.data }, { on := 7, ground := Go.Ground.guard }], guard := some (7, true) }) (v := ?_) rfl (by kernel_rfl) (by kernel_rfl) (by kernel_rfl) (fun _ _ _ h => h) (Or.inl ⟨by rfl, ?_⟩) (by assumption) ?_
                  rotate_left
                  · (intro w0 hSw; (try dsimp only at hSw); go_split_ands; go_simp; with_reducible rfl)
                  try simp only [Act.put, List.setIfInBounds_toArray, List.set_cons_zero, List.set_cons_succ]
                  refine wpAnyH_take (i := 15) (oi := { dst := some 108, op := Go.Op.fieldAddr 58 (Go.Operand.tmp 107) 0, type := 0, pos := "ref.go:42", after := #[{ on := 14, ground := Go.Ground.data }, { on := 7, ground := Go.Ground.guard }], guard := some (7, true) }) (v := ?_) rfl (by kernel_rfl) (by kernel_rfl) (by kernel_rfl) (fun _ _ _ h => h) (Or.inl ⟨by rfl, ?_⟩) (by assumption) ?_
                  rotate_left
                  · (intro w0 hSw; (try dsimp only at hSw); go_split_ands; go_simp; with_reducible rfl)
                  try simp only [Act.put, List.setIfInBounds_toArray, List.set_cons_zero, List.set_cons_succ]
                  refine wpAnyH_take (i := 16) (oi := { dst := some 109, op := Go.Op.load 35 (Go.Operand.tmp 108), type := 35, pos := "ref.go:42", after := #[{ on := 15, ground := Go.Ground.data }, { on := 7, ground := Go.Ground.guard }], guard := some (7, true) }) (v := ?_) rfl (by kernel_rfl) (by kernel_rfl) (by kernel_rfl) (fun _ _ _ h => h) (Or.inl ⟨by rfl, ?_⟩) (by assumption) ?_
                  rotate_left
                  · (intro w0 hSw; (try dsimp only at hSw); go_split_ands; go_simp; with_reducible rfl)
                  try simp only [Act.put, List.setIfInBounds_toArray, List.set_cons_zero, List.set_cons_succ]
                  refine wpAnyH_take (i := 17) (oi := { dst := some 110, op := Go.Op.move (Go.Operand.tmp 0), type := 29, pos := "ref.go:42", after := #[{ on := 7, ground := Go.Ground.guard }], guard := some (7, true) }) (v := ?_) rfl (by kernel_rfl) (by kernel_rfl) (by kernel_rfl) (fun _ _ _ h => h) (Or.inl ⟨by rfl, ?_⟩) (by assumption) ?_
                  rotate_left
                  · (intro w0 hSw; (try dsimp only at hSw); go_split_ands; go_simp; with_reducible rfl)
                  try simp only [Act.put, List.setIfInBounds_toArray, List.set_cons_zero, List.set_cons_succ]
                  refine wpAnyH_take (i := 18) (oi := { dst := some 111, op := Go.Op.move (Go.Operand.tmp 9), type := 3, pos := "ref.go:42", after := #[{ on := 7, ground := Go.Ground.guard }], guard := some (7, true) }) (v := ?_) rfl (by kernel_rfl) (by kernel_rfl) (by kernel_rfl) (fun _ _ _ h => h) (Or.inl ⟨by rfl, ?_⟩) (by assumption) ?_
                  rotate_left
                  · (intro w0 hSw; (try dsimp only at hSw); go_split_ands; go_simp; with_reducible rfl)
                  try simp only [Act.put, List.setIfInBounds_toArray, List.set_cons_zero, List.set_cons_succ]
                  refine wpAnyH_take (i := 19) (oi := { dst := some 112, op := Go.Op.indexAddr 29 (Go.Operand.tmp 110) (Go.Operand.tmp 111), type := 0, pos := "ref.go:42", after := #[{ on := 17, ground := Go.Ground.data }, { on := 18, ground := Go.Ground.data }, { on := 7, ground := Go.Ground.guard }], guard := some (7, true) }) (v := ?_) rfl (by kernel_rfl) (by kernel_rfl) (by kernel_rfl) (fun _ _ _ h => h) (Or.inl ⟨by rfl, ?_⟩) (by assumption) ?_
                  rotate_left
                  · (intro w0 hSw; (try dsimp only at hSw); go_split_ands; go_simp; with_reducible rfl)
                  try simp only [Act.put, List.setIfInBounds_toArray, List.set_cons_zero, List.set_cons_succ]
                  refine wpAnyH_take (i := 20) (oi := { dst := some 113, op := Go.Op.fieldAddr 58 (Go.Operand.tmp 112) 0, type := 0, pos := "ref.go:42", after := #[{ on := 19, ground := Go.Ground.data }, { on := 7, ground := Go.Ground.guard }], guard := some (7, true) }) (v := ?_) rfl (by kernel_rfl) (by kernel_rfl) (by kernel_rfl) (fun _ _ _ h => h) (Or.inl ⟨by rfl, ?_⟩) (by assumption) ?_
                  rotate_left
                  · (intro w0 hSw; (try dsimp only at hSw); go_split_ands; go_simp; with_reducible rfl)
                  try simp only [Act.put, List.setIfInBounds_toArray, List.set_cons_zero, List.set_cons_succ]
                  refine wpAnyH_take (i := 21) (oi := { dst := some 114, op := Go.Op.load 35 (Go.Operand.tmp 113), type := 35, pos := "ref.go:42", after := #[{ on := 20, ground := Go.Ground.data }, { on := 7, ground := Go.Ground.guard }], guard := some (7, true) }) (v := ?_) rfl (by kernel_rfl) (by kernel_rfl) (by kernel_rfl) (fun _ _ _ h => h) (Or.inl ⟨by rfl, ?_⟩) (by assumption) ?_
                  rotate_left
                  · (intro w0 hSw; (try dsimp only at hSw); go_split_ands; go_simp; with_reducible rfl)
                  try simp only [Act.put, List.setIfInBounds_toArray, List.set_cons_zero, List.set_cons_succ]
                  refine wpAnyH_take (i := 22) (oi := { dst := some 115, op := Go.Op.binOp Go.BinOp.lss 35 (Go.Operand.tmp 109) (Go.Operand.tmp 114) 35, type := 4, pos := "ref.go:42", after := #[{ on := 16, ground := Go.Ground.data }, { on := 21, ground := Go.Ground.data }, { on := 7, ground := Go.Ground.guard }], guard := some (7, true) }) (v := ?_) rfl (by kernel_rfl) (by kernel_rfl) (by kernel_rfl) (fun _ _ _ h => h) (Or.inl ⟨by rfl, ?_⟩) (by assumption) ?_
                  rotate_left
                  · (intro w0 hSw; (try dsimp only at hSw); go_split_ands; go_simp; with_reducible rfl)
                  try simp only [Act.put, List.setIfInBounds_toArray, List.set_cons_zero, List.set_cons_succ]
                  refine wpAnyH_take (i := 23) (oi := { dst := some 116, op := Go.Op.pick (Go.Operand.tmp 100) (Go.Operand.tmp 115) (Go.Operand.const (Go.Value.bool false)), type := 4, pos := "ref.go:42", after := #[{ on := 7, ground := Go.Ground.data }, { on := 22, ground := Go.Ground.data }], guard := none }) (v := ?_) rfl (by kernel_rfl) (by kernel_rfl) (by kernel_rfl) (fun _ _ _ h => h) (Or.inl ⟨by rfl, ?_⟩) (by assumption) ?_
                  rotate_left
                  · (intro w0 hSw; (try dsimp only at hSw); go_split_ands; go_simp; with_reducible rfl)
                  try simp only [Act.put, List.setIfInBounds_toArray, List.set_cons_zero, List.set_cons_succ]
                  refine wpAnyH_done (by kernel_rfl) ?_ _
                  clear hHeld
                  go_wp2_with fail
                  go_meet
                  case rel => exact ⟨by rw [decide_eq_false (show ¬ (k < i ∧ A k < A0 i) from fun h => ht h.2)], HTd, HBd⟩
              · obtain ⟨va, cp, rfl, _⟩ := own_form HT.out.ars
                have HSS : Hid (wr.drew.cell? ⟨w.heap.size, 0, none⟩ = some (.slice va i cp)) := Lib.hid (by rw [cell_of_row _ _ 0 #[_] 70 _ HTd.out.row]; rfl)
                have gk : ¬ (k : Int) < i := by omega
                refine wp_region_held_drew (S := fun w' => (w'.cell? ⟨w.heap.size, 0, none⟩ = some (.slice va i cp))) (by kernel_rfl) HSS.out (fun hHeld => ?_)
                refine wpAnyH_take (i := 0) (oi := { dst := some 93, op := Go.Op.move (Go.Operand.tmp 10), type := 3, pos := "ref.go:42", after := #[], guard := none }) (v := ?_) rfl (by kernel_rfl) (by kernel_rfl) (by kernel_rfl) (fun _ _ _ h => h) (Or.inl ⟨by rfl, ?_⟩) (by assumption) ?_
                rotate_left
                · (intro w0 hSw; (try dsimp only at hSw); go_split_ands; go_simp; with_reducible rfl)
                try simp only [Act.put, List.setIfInBounds_toArray, List.set_cons_zero, List.set_cons_succ]
                refine wpAnyH_take (i := 1) (oi := { dst := some 94, op := Go.Op.move (Go.Operand.tmp 4), type := 31, pos := "ref.go:42", after := #[], guard := none }) (v := ?_) rfl (by kernel_rfl) (by kernel_rfl) (by kernel_rfl) (fun _ _ _ h => h) (Or.inl ⟨by rfl, ?_⟩) (by assumption) ?_
                rotate_left
                · (intro w0 hSw; (try dsimp only at hSw); go_split_ands; go_simp; with_reducible rfl)
                try simp only [Act.put, List.setIfInBounds_toArray, List.set_cons_zero, List.set_cons_succ]
                refine wpAnyH_take (i := 2) (oi := { dst := some 95, op := Go.Op.nilCheck (Go.Operand.tmp 94), type := 0, pos := "ref.go:42", after := #[{ on := 1, ground := Go.Ground.data }], guard := none }) (v := ?_) rfl (by kernel_rfl) (by kernel_rfl) (by kernel_rfl) (fun _ _ _ h => h) (Or.inl ⟨by rfl, ?_⟩) (by assumption) ?_
                rotate_left
                · (intro w0 hSw; (try dsimp only at hSw); go_split_ands; go_simp; with_reducible rfl)
                try simp only [Act.put, List.setIfInBounds_toArray, List.set_cons_zero, List.set_cons_succ]
                refine wpAnyH_take (i := 3) (oi := { dst := some 96, op := Go.Op.fieldAddr 70 (Go.Operand.tmp 95) 0, type := 0, pos := "ref.go:42", after := #[{ on := 2, ground := Go.Ground.data }], guard := none }) (v := ?_) rfl (by kernel_rfl) (by kernel_rfl) (by kernel_rfl) (fun _ _ _ h => h) (Or.inl ⟨by rfl, ?_⟩) (by assumption) ?_
                rotate_left
                · (intro w0 hSw; (try dsimp only at hSw); go_split_ands; go_simp; with_reducible rfl)
                try simp only [Act.put, List.setIfInBounds_toArray, List.set_cons_zero, List.set_cons_succ]
                refine wpAnyH_take (i := 4) (oi := { dst := some 97, op := Go.Op.load 68 (Go.Operand.tmp 96), type := 68, pos := "ref.go:42", after := #[{ on := 3, ground := Go.Ground.data }], guard := none }) (v := ?_) rfl (by kernel_rfl) (by kernel_rfl) (by kernel_rfl) (fun _ _ _ h => h) (Or.inl ⟨by rfl, ?_⟩) (by assumption) ?_
                rotate_left
                · (intro w0 hSw; (try dsimp only at hSw); go_split_ands; go_simp; with_reducible rfl)
                try simp only [Act.put, List.setIfInBounds_toArray, List.set_cons_zero, List.set_cons_succ]
                refine wpAnyH_take (i := 5) (oi := { dst := some 98, op := Go.Op.call { callee := Go.Callee.builtin Go.Builtin.len, args := #[Go.Operand.tmp 97], argTypes := #[68] }, type := 3, pos := "ref.go:42", after := #[{ on := 4, ground := Go.Ground.data }], guard := none }) (v := ?_) rfl (by kernel_rfl) (by kernel_rfl) (by kernel_rfl) (fun _ _ _ h => h) (Or.inl ⟨by rfl, ?_⟩) (by assumption) ?_
                rotate_left
                · (intro w0 hSw; (try dsimp only at hSw); go_split_ands; go_simp; with_reducible rfl)
                try simp only [Act.put, List.setIfInBounds_toArray, List.set_cons_zero, List.set_cons_succ]
                refine wpAnyH_take (i := 6) (oi := { dst := some 99, op := Go.Op.binOp Go.BinOp.lss 3 (Go.Operand.tmp 93) (Go.Operand.tmp 98) 3, type := 4, pos := "ref.go:42", after := #[{ on := 0, ground := Go.Ground.data }, { on := 5, ground := Go.Ground.data }], guard := none }) (v := ?_) rfl (by kernel_rfl) (by kernel_rfl) (by kernel_rfl) (fun _ _ _ h => h) (Or.inl ⟨by rfl, ?_⟩) (by assumption) ?_
                rotate_left
                · (intro w0 hSw; (try dsimp only at hSw); go_split_ands; go_simp; with_reducible rfl)
                try simp only [Act.put, List.setIfInBounds_toArray, List.set_cons_zero, List.set_cons_succ]
                refine wpAnyH_take (i := 7) (oi := { dst := some 100, op := Go.Op.move (Go.Operand.tmp 99), type := 4, pos := "ref.go:42", after := #[{ on := 6, ground := Go.Ground.data }], guard := none }) (v := ?_) rfl (by kernel_rfl) (by kernel_rfl) (by kernel_rfl) (fun _ _ _ h => h) (Or.inl ⟨by rfl, ?_⟩) (by assumption) ?_
                rotate_left
                · (intro w0 hSw; (try dsimp only at hSw); go_split_ands; go_simp; with_reducible rfl)
                try simp only [Act.put, List.setIfInBounds_toArray, List.set_cons_zero, List.set_cons_succ]
                refine wpAnyH_take (i := 8) (oi := { dst := some 101, op := Go.Op.move (Go.Operand.tmp 4), type := 31, pos := "ref.go:42", after := #[{ on := 7, ground := Go.Ground.guard }], guard := some (7, true) }) (v := undef) rfl (by kernel_rfl) (by kernel_rfl) (by kernel_rfl) (fun _ _ _ h => h) (Or.inr ⟨by rfl, rfl⟩) (by assumption) ?_
                try simp only [Act.put, List.setIfInBounds_toArray, List.set_cons_zero, List.set_cons_succ]
                refine wpAnyH_take (i := 9) (oi := { dst := some 102, op := Go.Op.nilCheck (Go.Operand.tmp 101), type := 0, pos := "ref.go:42", after := #[{ on := 8, ground := Go.Ground.data }, { on := 7, ground := Go.Ground.guard }], guard := some (7, true) }) (v := undef) rfl (by kernel_rfl) (by kernel_rfl) (by kernel_rfl) (fun _ _ _ h => h) (Or.inr ⟨by rfl, rfl⟩) (by assumption) ?_
                try simp only [Act.put, List.setIfInBounds_toArray, List.set_cons_zero, List.set_cons_succ]
                refine wpAnyH_take (i := 10) (oi := { dst := some 103, op := Go.Op.fieldAddr 70 (Go.Operand.tmp 102) 0, type := 0, pos := "ref.go:42", after := #[{ on := 9, ground := Go.Ground.data }, { on := 7, ground := Go.Ground.guard }], guard := some (7, true) }) (v := undef) rfl (by kernel_rfl) (by kernel_rfl) (by kernel_rfl) (fun _ _ _ h => h) (Or.inr ⟨by rfl, rfl⟩) (by assumption) ?_
                try simp only [Act.put, List.setIfInBounds_toArray, List.set_cons_zero, List.set_cons_succ]
                refine wpAnyH_take (i := 11) (oi := { dst := some 104, op := Go.Op.load 68 (Go.Operand.tmp 103), type := 68, pos := "ref.go:42", after := #[{ on := 10, ground := Go.Ground.data }, { on := 7, ground := Go.Ground.guard }], guard := some (7, true) }) (v := undef) rfl (by kernel_rfl) (by kernel_rfl) (by kernel_rfl) (fun _ _ _ h => h) (Or.inr ⟨by rfl, rfl⟩) (by assumption) ?_
                try simp only [Act.put, List.setIfInBounds_toArray, List.set_cons_zero, List.set_cons_succ]
                refine wpAnyH_take (i := 12) (oi := { dst := some 105, op := Go.Op.move (Go.Operand.tmp 10), type := 3, pos := "ref.go:42", after := #[{ on := 7, ground := Go.Ground.guard }], guard := some (7, true) }) (v := undef) rfl (by kernel_rfl) (by kernel_rfl) (by kernel_rfl) (fun _ _ _ h => h) (Or.inr ⟨by rfl, rfl⟩) (by assumption) ?_
                try simp only [Act.put, List.setIfInBounds_toArray, List.set_cons_zero, List.set_cons_succ]
                refine wpAnyH_take (i := 13) (oi := { dst := some 106, op := Go.Op.indexAddr 68 (Go.Operand.tmp 104) (Go.Operand.tmp 105), type := 0, pos := "ref.go:42", after := #[{ on := 11, ground := Go.Ground.data }, { on := 12, ground := Go.Ground.data }, { on := 7, ground := Go.Ground.guard }], guard := some (7, true) }) (v := undef) rfl (by kernel_rfl) (by kernel_rfl) (by kernel_rfl) (fun _ _ _ h => h) (Or.inr ⟨by rfl, rfl⟩) (by assumption) ?_
                try simp only [Act.put, List.setIfInBounds_toArray, List.set_cons_zero, List.set_cons_succ]
                refine wpAnyH_take (i := 14) (oi := { dst := some 107, op := Go.Op.fieldAddr 72 (Go.Operand.tmp 106) 0, type := 0, pos := "ref.go:42", after := #[{ on := 13, ground := Go.Ground.data }, { on := 7, ground := Go.Ground.guard }], guard := some (7, true) }) (v := undef) rfl (by kernel_rfl) (by kernel_rfl) (by kernel_rfl) (fun _ _ _ h => h) (Or.inr ⟨by rfl, rfl⟩) (by assumption) ?_
                try simp only [Act.put, List.setIfInBounds_toArray, List.set_cons_zero, List.set_cons_succ]
                refine wpAnyH_take (i := 15) (oi := { dst := some 108, op := Go.Op.fieldAddr 58 (Go.Operand.tmp 107) 0, type := 0, pos := "ref.go:42", after := #[{ on := 14, ground := Go.Ground.data }, { on := 7, ground := Go.Ground.guard }], guard := some (7, true) }) (v := undef) rfl (by kernel_rfl) (by kernel_rfl) (by kernel_rfl) (fun _ _ _ h => h) (Or.inr ⟨by rfl, rfl⟩) (by assumption) ?_
                try simp only [Act.put, List.setIfInBounds_toArray, List.set_cons_zero, List.set_cons_succ]
                refine wpAnyH_take (i := 16) (oi := { dst := some 109, op := Go.Op.load 35 (Go.Operand.tmp 108), type := 35, pos := "ref.go:42", after := #[{ on := 15, ground := Go.Ground.data }, { on := 7, ground := Go.Ground.guard }], guard := some (7, true) }) (v := undef) rfl (by kernel_rfl) (by kernel_rfl) (by kernel_rfl) (fun _ _ _ h => h) (Or.inr ⟨by rfl, rfl⟩) (by assumption) ?_
                try simp only [Act.put, List.setIfInBounds_toArray, List.set_cons_zero, List.set_cons_succ]
                refine wpAnyH_take (i := 17) (oi := { dst := some 110, op := Go.Op.move (Go.Operand.tmp 0), type := 29, pos := "ref.go:42", after := #[{ on := 7, ground := Go.Ground.guard }], guard := some (7, true) }) (v := undef) rfl (by kernel_rfl) (by kernel_rfl) (by kernel_rfl) (fun _ _ _ h => h) (Or.inr ⟨by rfl, rfl⟩) (by assumption) ?_
                try simp only [Act.put, List.setIfInBounds_toArray, List.set_cons_zero, List.set_cons_succ]
                refine wpAnyH_take (i := 18) (oi := { dst := some 111, op := Go.Op.move (Go.Operand.tmp 9), type := 3, pos := "ref.go:42", after := #[{ on := 7, ground := Go.Ground.guard }], guard := some (7, true) }) (v := undef) rfl (by kernel_rfl) (by kernel_rfl) (by kernel_rfl) (fun _ _ _ h => h) (Or.inr ⟨by rfl, rfl⟩) (by assumption) ?_
                try simp only [Act.put, List.setIfInBounds_toArray, List.set_cons_zero, List.set_cons_succ]
                refine wpAnyH_take (i := 19) (oi := { dst := some 112, op := Go.Op.indexAddr 29 (Go.Operand.tmp 110) (Go.Operand.tmp 111), type := 0, pos := "ref.go:42", after := #[{ on := 17, ground := Go.Ground.data }, { on := 18, ground := Go.Ground.data }, { on := 7, ground := Go.Ground.guard }], guard := some (7, true) }) (v := undef) rfl (by kernel_rfl) (by kernel_rfl) (by kernel_rfl) (fun _ _ _ h => h) (Or.inr ⟨by rfl, rfl⟩) (by assumption) ?_
                try simp only [Act.put, List.setIfInBounds_toArray, List.set_cons_zero, List.set_cons_succ]
                refine wpAnyH_take (i := 20) (oi := { dst := some 113, op := Go.Op.fieldAddr 58 (Go.Operand.tmp 112) 0, type := 0, pos := "ref.go:42", after := #[{ on := 19, ground := Go.Ground.data }, { on := 7, ground := Go.Ground.guard }], guard := some (7, true) }) (v := undef) rfl (by kernel_rfl) (by kernel_rfl) (by kernel_rfl) (fun _ _ _ h => h) (Or.inr ⟨by rfl, rfl⟩) (by assumption) ?_
                try simp only [Act.put, List.setIfInBounds_toArray, List.set_cons_zero, List.set_cons_succ]
                refine wpAnyH_take (i := 21) (oi := { dst := some 114, op := Go.Op.load 35 (Go.Operand.tmp 113), type := 35, pos := "ref.go:42", after := #[{ on := 20, ground := Go.Ground.data }, { on := 7, ground := Go.Ground.guard }], guard := some (7, true) }) (v := undef) rfl (by kernel_rfl) (by kernel_rfl) (by kernel_rfl) (fun _ _ _ h => h) (Or.inr ⟨by rfl, rfl⟩) (by assumption) ?_
                try simp only [Act.put, List.setIfInBounds_toArray, List.set_cons_zero, List.set_cons_succ]
                refine wpAnyH_take (i := 22) (oi := { dst := some 115, op := Go.Op.binOp Go.BinOp.lss 35 (Go.Operand.tmp 109) (Go.Operand.tmp 114) 35, type := 4, pos := "ref.go:42", after := #[{ on := 16, ground := Go.Ground.data }, { on := 21, ground := Go.Ground.data }, { on := 7, ground := Go.Ground.guard }], guard := some (7, true) }) (v := undef) rfl (by kernel_rfl) (by kernel_rfl) (by kernel_rfl) (fun _ _ _ h => h) (Or.inr ⟨by rfl, rfl⟩) (by assumption) ?_
                try simp only [Act.put, List.setIfInBounds_toArray, List.set_cons_zero, List.set_cons_succ]
                refine wpAnyH_take (i := 23) (oi := { dst := some 116, op := Go.Op.pick (Go.Operand.tmp 100) (Go.Operand.tmp 115) (Go.Operand.const (Go.Value.bool false)), type := 4, pos := "ref.go:42", after := #[{ on := 7, ground := Go.Ground.data }, { on := 22, ground := Go.Ground.data }], guard := none }) (v := ?_) rfl (by kernel_rfl) (by kernel_rfl) (by kernel_rfl) (fun _ _ _ h => h) (Or.inl ⟨by rfl, ?_⟩) (by assumption) ?_
                rotate_left
                · (intro w0 hSw; (try dsimp only at hSw); go_split_ands; go_simp; with_reducible rfl)
                try simp only [Act.put, List.setIfInBounds_toArray, List.set_cons_zero, List.set_cons_succ]
                refine wpAnyH_done (by kernel_rfl) ?_ _
                clear hHeld
                go_wp2_with fail
                go_meet
                case rel => exact ⟨by rw [decide_eq_false (show ¬ (k < i ∧ A k < A0 i) from fun h => hlk h.1)], HTd, HBd⟩
            case rest =>
              obtain ⟨rfl, HTc, HBc⟩ := hcut
              clear HT HB
              by_cases hgo : k < i ∧ A k < A0 i
              · rw [decide_eq_true hgo]
                go_wp2
                refine ⟨⟨k + 1, by omega, by go_num, Lib.hid (fun j hj => ?_), HTc, HBc⟩, by simp [intOf]; omega⟩
                by_cases e : j = k
                · subst e; exact hgo.2
                · exact HKA.out j (by omega)
              · rw [decide_eq_false hgo]
                have HK2 : Hid (k = i ∨ A0 i < A k) := Lib.hid (by
                  by_cases hlk : k < i
                  · exact .inr (RightD.gt HD.out HR.out hlt hlk (fun h => hgo ⟨hlk, h⟩))
                  · exact .inl (by omega))
                clear hgo
                obtain ⟨wq, rfl⟩ : ∃ wq : World, wq = wc := ⟨_, rfl⟩
                go_upto_region 22 with (fail)
                go_cut [11] from 119 to 139 (fun s11 wy => ∃ (g22 c22 : Nat), Hid (Below wq.heap.size wq wy) ∧ Hid (wy.ownsRow wq.heap.size 72 5 s11 (k + 1) ((arL (zMe i A S W X) B C i).take (k * 5) ++ [.int .u64 (A0 i : Nat), .int .u64 (S0 i : Nat), .bool (W0 i), .bool (X0 i), .slice (some ⟨g22, 0, none⟩) (S0 i) c22])) ∧ Hid (wy.ownsRow wq.heap.size 5 1 (.slice (some ⟨g22, 0, none⟩) (S0 i) c22) (S0 i) (byL (fun _ => 0) (S0 i))))
                case first =>
                  obtain ⟨va, cp, rfl, hcp, hs1, _⟩ := HTc.out.srcs hk
                  have r4 : S0 i ≤ 16777216 := (HR.out.1 i hlt).2.2.2.1
                  have HKS : Hid (∀ w', Below wq.heap.size wq w' → (w'.cell? ⟨w.heap.size, 0, none⟩ = some (.slice va i cp) ∧ w'.cell? ⟨rb, ro + i * 4, none⟩ = some (.int .u64 (A0 i : Nat)) ∧ w'.cell? ⟨rb, ro + i * 4 + 1, none⟩ = some (.int .u64 (S0 i : Nat)) ∧ w'.cell? ⟨rb, ro + i * 4 + 2, none⟩ = some (.bool (W0 i)) ∧ w'.cell? ⟨rb, ro + i * 4 + 3, none⟩ = some (.bool (X0 i)))) := Lib.hid (fun w' hb => by
                    have hT := HTc.out.past hb
                    have hb2 := HBc.out.trans (hb.mono HBc.out.size)
                    exact ⟨by rw [cell_of_row _ _ 0 #[_] 70 _ hT.row]; rfl, (hb2.cell (p := ⟨rb, ro + i * 4, none⟩) HRB.out).trans HC.out.1, (hb2.cell (p := ⟨rb, ro + i * 4 + 1, none⟩) HRB.out).trans HC.out.2.1, (hb2.cell (p := ⟨rb, ro + i * 4 + 2, none⟩) HRB.out).trans HC.out.2.2.1, (hb2.cell (p := ⟨rb, ro + i * 4 + 3, none⟩) HRB.out).trans HC.out.2.2.2⟩)
                  have HB_0 : Hid (Below wq.heap.size wq wq.drew) := Lib.hid (below_drewN (Below.refl _ _) 1)
                  have HSR : Hid (SrcP wq (sliced va 0 k cp 5) k ((arL (zMe i A S W X) B C i).take (k * 5))) := Lib.hid hs1
                  have HXL : Hid (((arL (zMe i A S W X) B C i).take (k * 5)).length = k * 5) := Lib.hid (by rw [List.length_take, arL_len]; omega)
                  obtain ⟨xs, hxs⟩ : ∃ xs, (arL (zMe i A S W X) B C i).take (k * 5) = xs := ⟨_, rfl⟩
                  rw [hxs] at HSR HXL
                  have HXS := Lib.hid hxs
                  clear hxs
                  have hki : (k : Int) ≤ cp := by omega
                  clear hs1 HTc HBc HC HP HKA HD HU HK2 HR HA HS
                  obtain ⟨u1, hu1⟩ : ∃ u1, sliced va 0 k cp 5 = u1 := ⟨_, rfl⟩
                  rw [hu1] at HSR
                  have HU1 := Lib.hid hu1
                  clear hu1
                  refine wp_region_held_drew (S := fun w' => (w'.cell? ⟨w.heap.size, 0, none⟩ = some (.slice va i cp) ∧ w'.cell? ⟨rb, ro + i * 4, none⟩ = some (.int .u64 (A0 i : Nat)) ∧ w'.cell? ⟨rb, ro + i * 4 + 1, none⟩ = some (.int .u64 (S0 i : Nat)) ∧ w'.cell? ⟨rb, ro + i * 4 + 2, none⟩ = some (.bool (W0 i)) ∧ w'.cell? ⟨rb, ro + i * 4 + 3, none⟩ = some (.bool (X0 i)))) (by kernel_rfl) (HKS.out _ HB_0.out) (fun hHeld => ?_)
                  generalize wq.drew = V at HB_0 hHeld ⊢
                  refine wpAnyH_take (i := 1) (oi := { dst := some 120, op := Go.Op.move (Go.Operand.tmp 4), type := 31, pos := "ref.go:45", after := #[], guard := none }) (v := ?_) rfl (by kernel_rfl) (by kernel_rfl) (by kernel_rfl) (fun _ _ _ h => h) (Or.inl ⟨by rfl, ?_⟩) (by assumption) ?_
                  rotate_left
                  · (intro w0 hSw; (try dsimp only at hSw); go_split_ands; go_simp; with_reducible rfl)
                  try simp only [Act.put, List.setIfInBounds_toArray, List.set_cons_zero, List.set_cons_succ]
                  refine wpAnyH_take (i := 2) (oi := { dst := some 121, op := Go.Op.nilCheck (Go.Operand.tmp 120), type := 0, pos := "ref.go:45", after := #[{ on := 1, ground := Go.Ground.data }], guard := none }) (v := ?_) rfl (by kernel_rfl) (by kernel_rfl) (by kernel_rfl) (fun _ _ _ h => h) (Or.inl ⟨by rfl, ?_⟩) (by assumption) ?_
                  rotate_left
                  · (intro w0 hSw; (try dsimp only at hSw); go_split_ands; go_simp; with_reducible rfl)
                  try simp only [Act.put, List.setIfInBounds_toArray, List.set_cons_zero, List.set_cons_succ]
                  refine wpAnyH_take (i := 3) (oi := { dst := some 122, op := Go.Op.fieldAddr 70 (Go.Operand.tmp 121) 0, type := 0, pos := "ref.go:45", after := #[{ on := 2, ground := Go.Ground.data }], guard := none }) (v := ?_) rfl (by kernel_rfl) (by kernel_rfl) (by kernel_rfl) (fun _ _ _ h => h) (Or.inl ⟨by rfl, ?_⟩) (by assumption) ?_
                  rotate_left
                  · (intro w0 hSw; (try dsimp only at hSw); go_split_ands; go_simp; with_reducible rfl)
                  try simp only [Act.put, List.setIfInBounds_toArray, List.set_cons_zero, List.set_cons_succ]
                  refine wpAnyH_take (i := 4) (oi := { dst := some 123, op := Go.Op.load 68 (Go.Operand.tmp 122), type := 68, pos := "ref.go:45", after := #[{ on := 3, ground := Go.Ground.data }], guard := none }) (v := ?_) rfl (by kernel_rfl) (by kernel_rfl) (by kernel_rfl) (fun _ _ _ h => h) (Or.inl ⟨by rfl, ?_⟩) (by assumption) ?_
                  rotate_left
                  · (intro w0 hSw; (try dsimp only at hSw); go_split_ands; go_simp; with_reducible rfl)
                  try simp only [Act.put, List.setIfInBounds_toArray, List.set_cons_zero, List.set_cons_succ]
                  refine wpAnyH_take (i := 5) (oi := { dst := some 124, op := Go.Op.move (Go.Operand.tmp 10), type := 3, pos := "ref.go:45", after := #[], guard := none }) (v := ?_) rfl (by kernel_rfl) (by kernel_rfl) (by kernel_rfl) (fun _ _ _ h => h) (Or.inl ⟨by rfl, ?_⟩) (by assumption) ?_
                  rotate_left
                  · (intro w0 hSw; (try dsimp only at hSw); go_split_ands; go_simp; with_reducible rfl)
                  try simp only [Act.put, List.setIfInBounds_toArray, List.set_cons_zero, List.set_cons_succ]
                  refine wpAnyH_take (i := 6) (oi := { dst := some 125, op := Go.Op.slice 68 (Go.Operand.tmp 123) none (some (Go.Operand.tmp 124)) none, type := 68, pos := "ref.go:45", after := #[{ on := 4, ground := Go.Ground.data }, { on := 5, ground := Go.Ground.data }], guard := none }) (v := u1) rfl (by kernel_rfl) (by kernel_rfl) (by kernel_rfl) (fun _ _ _ h => h) (Or.inl ⟨by rfl, ?_⟩) (by assumption) ?_
                  · (intro w0 hSw; rw [← HU1.out]; (try dsimp only at hSw); go_split_ands; go_simp)
                  try simp only [Act.put, List.setIfInBounds_toArray, List.set_cons_zero, List.set_cons_succ]
                  refine wpAnyH_take (i := 8) (oi := { dst := some 127, op := Go.Op.move (Go.Operand.tmp 0), type := 29, pos := "ref.go:45", after := #[], guard := none }) (v := ?_) rfl (by kernel_rfl) (by kernel_rfl) (by kernel_rfl) (fun _ _ _ h => h) (Or.inl ⟨by rfl, ?_⟩) (by assumption) ?_
                  rotate_left
                  · (intro w0 hSw; (try dsimp only at hSw); go_split_ands; go_simp; with_reducible rfl)
                  try simp only [Act.put, List.setIfInBounds_toArray, List.set_cons_zero, List.set_cons_succ]
                  refine wpAnyH_take (i := 9) (oi := { dst := some 128, op := Go.Op.move (Go.Operand.tmp 9), type := 3, pos := "ref.go:45", after := #[], guard := none }) (v := ?_) rfl (by kernel_rfl) (by kernel_rfl) (by kernel_rfl) (fun _ _ _ h => h) (Or.inl ⟨by rfl, ?_⟩) (by assumption) ?_
                  rotate_left
                  · (intro w0 hSw; (try dsimp only at hSw); go_split_ands; go_simp; with_reducible rfl)
                  try simp only [Act.put, List.setIfInBounds_toArray, List.set_cons_zero, List.set_cons_succ]
                  refine wpAnyH_take (i := 10) (oi := { dst := some 129, op := Go.Op.indexAddr 29 (Go.Operand.tmp 127) (Go.Operand.tmp 128), type := 0, pos := "ref.go:45", after := #[{ on := 8, ground := Go.Ground.data }, { on := 9, ground := Go.Ground.data }], guard := none }) (v := ?_) rfl (by kernel_rfl) (by kernel_rfl) (by kernel_rfl) (fun _ _ _ h => h) (Or.inl ⟨by rfl, ?_⟩) (by assumption) ?_
                  rotate_left
                  · (intro w0 hSw; (try dsimp only at hSw); go_split_ands; go_simp; with_reducible rfl)
                  try simp only [Act.put, List.setIfInBounds_toArray, List.set_cons_zero, List.set_cons_succ]
                  refine wpAnyH_take (i := 11) (oi := { dst := some 130, op := Go.Op.load 58 (Go.Operand.tmp 129), type := 58, pos := "ref.go:45", after := #[{ on := 10, ground := Go.Ground.data }], guard := none }) (v := ?_) rfl (by kernel_rfl) (by kernel_rfl) (by kernel_rfl) (fun _ _ _ h => h) (Or.inl ⟨by rfl, ?_⟩) (by assumption) ?_
                  rotate_left
                  · (intro w0 hSw; (try dsimp only at hSw); go_split_ands; go_simp; with_reducible rfl)
                  try simp only [Act.put, List.setIfInBounds_toArray, List.set_cons_zero, List.set_cons_succ]
                  refine wpAnyH_take (i := 12) (oi := { dst := some 131, op := Go.Op.move (Go.Operand.tmp 0), type := 29, pos := "ref.go:45", after := #[], guard := none }) (v := ?_) rfl (by kernel_rfl) (by kernel_rfl) (by kernel_rfl) (fun _ _ _ h => h) (Or.inl ⟨by rfl, ?_⟩) (by assumption) ?_
                  rotate_left
                  · (intro w0 hSw; (try dsimp only at hSw); go_split_ands; go_simp; with_reducible rfl)
                  try simp only [Act.put, List.setIfInBounds_toArray, List.set_cons_zero, List.set_cons_succ]
                  refine wpAnyH_take (i := 13) (oi := { dst := some 132, op := Go.Op.move (Go.Operand.tmp 9), type := 3, pos := "ref.go:45", after := #[], guard := none }) (v := ?_) rfl (by kernel_rfl) (by kernel_rfl) (by kernel_rfl) (fun _ _ _ h => h) (Or.inl ⟨by rfl, ?_⟩) (by assumption) ?_
                  rotate_left
                  · (intro w0 hSw; (try dsimp only at hSw); go_split_ands; go_simp; with_reducible rfl)
                  try simp only [Act.put, List.setIfInBounds_toArray, List.set_cons_zero, List.set_cons_succ]
                  refine wpAnyH_take (i := 14) (oi := { dst := some 133, op := Go.Op.indexAddr 29 (Go.Operand.tmp 131) (Go.Operand.tmp 132), type := 0, pos := "ref.go:45", after := #[{ on := 12, ground := Go.Ground.data }, { on := 13, ground := Go.Ground.data }], guard := none }) (v := ?_) rfl (by kernel_rfl) (by kernel_rfl) (by kernel_rfl) (fun _ _ _ h => h) (Or.inl ⟨by rfl, ?_⟩) (by assumption) ?_
                  rotate_left
                  · (intro w0 hSw; (try dsimp only at hSw); go_split_ands; go_simp; with_reducible rfl)
                  try simp only [Act.put, List.setIfInBounds_toArray, List.set_cons_zero, List.set_cons_succ]
                  refine wpAnyH_take (i := 15) (oi := { dst := some 134, op := Go.Op.fieldAddr 58 (Go.Operand.tmp 133) 1, type := 0, pos := "ref.go:45", after := #[{ on := 14, ground := Go.Ground.data }], guard := none }) (v := ?_) rfl (by kernel_rfl) (by kernel_rfl) (by kernel_rfl) (fun _ _ _ h => h) (Or.inl ⟨by rfl, ?_⟩) (by assumption) ?_
                  rotate_left
                  · (intro w0 hSw; (try dsimp only at hSw); go_split_ands; go_simp; with_reducible rfl)
                  try simp only [Act.put, List.setIfInBounds_toArray, List.set_cons_zero, List.set_cons_succ]
                  refine wpAnyH_take (i := 16) (oi := { dst := some 135, op := Go.Op.load 35 (Go.Operand.tmp 134), type := 35, pos := "ref.go:45", after := #[{ on := 15, ground := Go.Ground.data }], guard := none }) (v := ?_) rfl (by kernel_rfl) (by kernel_rfl) (by kernel_rfl) (fun _ _ _ h => h) (Or.inl ⟨by rfl, ?_⟩) (by assumption) ?_
                  rotate_left
                  · (intro w0 hSw; (try dsimp only at hSw); go_split_ands; go_simp; with_reducible rfl)
                  try simp only [Act.put, List.setIfInBounds_toArray, List.set_cons_zero, List.set_cons_succ]
                  refine wpAnyH_ready (rs := [0, 17]) (by kernel_rfl) (by simp) ?_
                  refine AllReadyH.cons (o := { dst := some 119, op := Go.Op.buildSlice 68 0 #[], type := 68, pos := "ref.go:45", after := #[], guard := none }) rfl (fun K hK => ?_) (AllReadyH.cons (o := { dst := some 136, op := Go.Op.makeSlice 22 (Go.Operand.tmp 135) (Go.Operand.tmp 135), type := 22, pos := "ref.go:45", after := #[{ on := 16, ground := Go.Ground.data }, { on := 16, ground := Go.Ground.data }], guard := none }) rfl (fun K hK => ?_) AllReadyH.nil)
                  · go_simp
                    have hb : Below V.heap.size V (V.alloc (.cells #[] 72)) := (Below.refl _ _).alloc (Nat.le_refl _) _
                    have HB_1 := Lib.hid (HB_0.out.trans (hb.mono HB_0.out.size))
                    have HE0_1 : Hid ((V.alloc (.cells #[] 72)).ownsRow V.heap.size 72 5 (.slice (some ⟨V.heap.size, 0, none⟩) 0 0) 0 []) := Lib.hid (World.ownsRow_made V #[] 0 (Nat.le_refl _) (by unfold maxLen; omega) rfl)
                    have HG0 : Hid (wq.heap.size ≤ V.heap.size) := Lib.hid HB_0.out.size
                    refine hK.out _ _ (HKS.out _ HB_1.out) (fun hHeld => ?_)
                    clear hK K
                    try simp only [Act.put, List.setIfInBounds_toArray, List.set_cons_zero, List.set_cons_succ]
                    clear HB_0 hb
                    generalize V.alloc (.cells #[] 72) = V1 at HB_1 HE0_1 hHeld ⊢
                    generalize V.heap.size = b0 at HE0_1 HG0 ⊢
                    refine wpAnyH_ready (rs := [7, 17]) (by kernel_rfl) (by simp) ?_
                    refine AllReadyH.cons (o := { dst := some 126, op := Go.Op.call { callee := Go.Callee.builtin Go.Builtin.append, args := #[Go.Operand.tmp 119, Go.Operand.tmp 125], argTypes := #[68, 68] }, type := 68, pos := "ref.go:45", after := #[{ on := 0, ground := Go.Ground.data }, { on := 6, ground := Go.Ground.data }], guard := none }) rfl (fun K hK => ?_) (AllReadyH.cons (o := { dst := some 136, op := Go.Op.makeSlice 22 (Go.Operand.tmp 135) (Go.Operand.tmp 135), type := 22, pos := "ref.go:45", after := #[{ on := 16, ground := Go.Ground.data }, { on := 16, ground := Go.Ground.data }], guard := none }) rfl (fun K hK => ?_) AllReadyH.nil)
                    · obtain ⟨v7, V2, hr, ho, hb⟩ := append_empty V1 b0 k u1 xs HE0_1.out (HSR.out.past HB_1.out) (by omega) (Nat.le_of_lt (HE0_1.out.lt b0 rfl).2)
                      have HB_2 := Lib.hid (HB_1.out.trans (hb.mono HB_1.out.size))
                      have HE7_2 := Lib.hid (own_raise ho HG0.out)
                      refine step_append_run rfl _ _ _ rfl _ _ _ _ rfl (by rfl) hr ?_
                      refine hK.out _ _ (HKS.out _ HB_2.out) (fun hHeld => ?_)
                      clear hK K
                      try simp only [Act.put, List.setIfInBounds_toArray, List.set_cons_zero, List.set_cons_succ]
                      clear ho hr
                      clear HB_1 HE0_1 hb
                      refine wpAnyH_ready (rs := [17]) (by kernel_rfl) (by simp) ?_
                      refine AllReadyH.cons (o := { dst := some 136, op := Go.Op.makeSlice 22 (Go.Operand.tmp 135) (Go.Operand.tmp 135), type := 22, pos := "ref.go:45", after := #[{ on := 16, ground := Go.Ground.data }, { on := 16, ground := Go.Ground.data }], guard := none }) rfl (fun K hK => ?_) AllReadyH.nil
                      obtain ⟨V3, hmk, ho, hb⟩ := make_b V2 (S0 i) r4
                      have HB_3 := Lib.hid (HB_2.out.trans (hb.mono HB_2.out.size))
                      have HE17_3 := Lib.hid (own_raise ho HB_2.out.size)
                      have HE7_3 := Lib.hid (own_past HE7_2.out hb)
                      go_simp
                      refine hK.out _ _ (HKS.out _ HB_3.out) (fun hHeld => ?_)
                      clear hK K
                      try simp only [Act.put, List.setIfInBounds_toArray, List.set_cons_zero, List.set_cons_succ]
                      clear ho hmk
                      clear HB_2 HE7_2 hb
                      generalize V2.heap.size = g at HE17_3 ⊢
                      refine wpAnyH_take (i := 18) (oi := { dst := some 137, op := Go.Op.build 72 #[(0, Go.Operand.tmp 130), (1, Go.Operand.tmp 136)], type := 72, pos := "ref.go:45", after := #[{ on := 11, ground := Go.Ground.data }, { on := 17, ground := Go.Ground.data }], guard := none }) (v := ?_) rfl (by kernel_rfl) (by kernel_rfl) (by kernel_rfl) (fun _ _ _ h => h) (Or.inl ⟨by rfl, ?_⟩) (by assumption) ?_
                      rotate_left
                      · (intro w0 hSw; (try dsimp only at hSw); go_split_ands; go_simp; with_reducible rfl)
                      try simp only [Act.put, List.setIfInBounds_toArray, List.set_cons_zero, List.set_cons_succ]
                      refine wpAnyH_ready (rs := [19]) (by kernel_rfl) (by simp) ?_
                      refine AllReadyH.cons (o := { dst := some 138, op := Go.Op.buildSlice 68 1 #[(0, Go.Operand.tmp 137)], type := 68, pos := "ref.go:45", after := #[{ on := 18, ground := Go.Ground.data }], guard := none }) rfl (fun K hK => ?_) AllReadyH.nil
                      go_simp
                      have hb : Below V3.heap.size V3 (V3.alloc (.cells #[.int .u64 (A0 i : Nat), .int .u64 (S0 i : Nat), .bool (W0 i), .bool (X0 i), .slice (some ⟨g, 0, none⟩) (S0 i) (S0 i)] 72)) := (Below.refl _ _).alloc (Nat.le_refl _) _
                      have HB_4 := Lib.hid (HB_3.out.trans (hb.mono HB_3.out.size))
                      have HE19_4 : Hid (∀ q x, ([.int .u64 (A0 i : Nat), .int .u64 (S0 i : Nat), .bool (W0 i), .bool (X0 i), .slice (some ⟨g, 0, none⟩) (S0 i) (S0 i)] : List Value)[q]? = some x → (V3.alloc (.cells #[.int .u64 (A0 i : Nat), .int .u64 (S0 i : Nat), .bool (W0 i), .bool (X0 i), .slice (some ⟨g, 0, none⟩) (S0 i) (S0 i)] 72)).cell? ((⟨V3.heap.size, 0, none⟩ : Addr).add q) = some x) := Lib.hid (fun q x hq => by rw [Go.WideShapes.add_plain, Nat.zero_add, World.cell?_alloc_at _ _ _ _ rfl, ← Array.getElem?_toList]; exact hq)
                      have HE7_4 := Lib.hid (own_past HE7_3.out hb)
                      have HE17_4 := Lib.hid (own_past HE17_3.out hb)
                      refine hK.out _ _ (HKS.out _ HB_4.out) (fun hHeld => ?_)
                      clear hK K
                      try simp only [Act.put, List.setIfInBounds_toArray, List.set_cons_zero, List.set_cons_succ]
                      clear HB_3 HE7_3 HE17_3 hb
                      generalize V3.alloc (.cells #[.int .u64 (A0 i : Nat), .int .u64 (S0 i : Nat), .bool (W0 i), .bool (X0 i), .slice (some ⟨g, 0, none⟩) (S0 i) (S0 i)] 72) = V4 at HB_4 HE7_4 HE17_4 HE19_4 hHeld ⊢
                      generalize V3.heap.size = p at HE19_4 ⊢
                      refine wpAnyH_ready (rs := [20]) (by kernel_rfl) (by simp) ?_
                      refine AllReadyH.cons (o := { dst := some 139, op := Go.Op.call { callee := Go.Callee.builtin Go.Builtin.append, args := #[Go.Operand.tmp 126, Go.Operand.tmp 138], argTypes := #[68, 68] }, type := 68, pos := "ref.go:45", after := #[{ on := 7, ground := Go.Ground.data }, { on := 19, ground := Go.Ground.data }, { on := 7, ground := Go.Ground.chain }], guard := none }) rfl (fun K hK => ?_) AllReadyH.nil
                      obtain ⟨v20, V5, hr, ho, hg⟩ := append_any V4 wq.heap.size k 1 v7 (.slice (some ⟨p, 0, none⟩) 1 1) xs [.int .u64 (A0 i : Nat), .int .u64 (S0 i : Nat), .bool (W0 i), .bool (X0 i), .slice (some ⟨g, 0, none⟩) (S0 i) (S0 i)] HE7_4.out (.inr ⟨⟨p, 0, none⟩, 1, rfl, rfl, HE19_4.out, fun x hx => by simp only [List.mem_cons, List.not_mem_nil, or_false] at hx; rcases hx with rfl | rfl | rfl | rfl | rfl <;> rfl⟩) (by omega) HB_4.out.size
                      have HB_5 := Lib.hid (HB_4.out.grown hg HB_4.out.size (fun q hq => (HE7_4.out.lt q hq).1))
                      have HO20 := Lib.hid ho
                      have HE17_5 := Lib.hid (own_grown HE17_4.out HE7_4.out (by decide) hg)
                      refine step_append_run rfl _ _ _ rfl _ _ _ _ rfl (by rfl) hr ?_
                      refine hK.out _ _ (HKS.out _ HB_5.out) (fun hHeld => ?_)
                      clear hK K
                      try simp only [Act.put, List.setIfInBounds_toArray, List.set_cons_zero, List.set_cons_succ]
                      clear ho hr hg
                      refine wpAnyH_take (i := 21) (oi := { dst := some 11, op := Go.Op.assign (Go.Operand.tmp 139), type := 68, pos := "ref.go:45", after := #[{ on := 20, ground := Go.Ground.data }, { on := 20, ground := Go.Ground.chain }, { on := 0, ground := Go.Ground.phase }, { on := 1, ground := Go.Ground.phase }, { on := 2, ground := Go.Ground.phase }, { on := 3, ground := Go.Ground.phase }, { on := 4, ground := Go.Ground.phase }, { on := 5, ground := Go.Ground.phase }, { on := 6, ground := Go.Ground.phase }, { on := 7, ground := Go.Ground.phase }, { on := 8, ground := Go.Ground.phase }, { on := 9, ground := Go.Ground.phase }, { on := 10, ground := Go.Ground.phase }, { on := 11, ground := Go.Ground.phase }, { on := 12, ground := Go.Ground.phase }, { on := 13, ground := Go.Ground.phase }, { on := 14, ground := Go.Ground.phase }, { on := 15, ground := Go.Ground.phase }, { on := 16, ground := Go.Ground.phase }, { on := 17, ground := Go.Ground.phase }, { on := 18, ground := Go.Ground.phase }, { on := 19, ground := Go.Ground.phase }, { on := 20, ground := Go.Ground.phase }], guard := none }) (v := ?_) rfl (by kernel_rfl) (by kernel_rfl) (by kernel_rfl) (fun _ _ _ h => h) (Or.inl ⟨by rfl, ?_⟩) (by assumption) ?_
                      rotate_left
                      · (intro w0 hSw; (try dsimp only at hSw); go_split_ands; go_simp; with_reducible rfl)
                      try simp only [Act.put, List.setIfInBounds_toArray, List.set_cons_zero, List.set_cons_succ]
                      refine wpAnyH_done (by kernel_rfl) ?_ _
                      clear hHeld
                      go_wp2_with fail
                      go_meet
                      case rel => exact ⟨g, S0 i, HB_5, Lib.hid (by rw [HXS.out]; exact HO20.out), HE17_5⟩
                    · obtain ⟨V2, hmk, ho, hb⟩ := make_b V1 (S0 i) r4
                      have HB_2 := Lib.hid (HB_1.out.trans (hb.mono HB_1.out.size))
                      have HE17_2 := Lib.hid (own_raise ho HB_1.out.size)
                      have HE0_2 := Lib.hid (own_past HE0_1.out hb)
                      go_simp
                      refine hK.out _ _ (HKS.out _ HB_2.out) (fun hHeld => ?_)
                      clear hK K
                      try simp only [Act.put, List.setIfInBounds_toArray, List.set_cons_zero, List.set_cons_succ]
                      clear ho hmk
                      clear HB_1 HE0_1 hb
                      generalize V1.heap.size = g at HE17_2 ⊢
                      refine wpAnyH_take (i := 18) (oi := { dst := some 137, op := Go.Op.build 72 #[(0, Go.Operand.tmp 130), (1, Go.Operand.tmp 136)], type := 72, pos := "ref.go:45", after := #[{ on := 11, ground := Go.Ground.data }, { on := 17, ground := Go.Ground.data }], guard := none }) (v := ?_) rfl (by kernel_rfl) (by kernel_rfl) (by kernel_rfl) (fun _ _ _ h => h) (Or.inl ⟨by rfl, ?_⟩) (by assumption) ?_
                      rotate_left
                      · (intro w0 hSw; (try dsimp only at hSw); go_split_ands; go_simp; with_reducible rfl)
                      try simp only [Act.put, List.setIfInBounds_toArray, List.set_cons_zero, List.set_cons_succ]
                      refine wpAnyH_ready (rs := [7, 19]) (by kernel_rfl) (by simp) ?_
                      refine AllReadyH.cons (o := { dst := some 126, op := Go.Op.call { callee := Go.Callee.builtin Go.Builtin.append, args := #[Go.Operand.tmp 119, Go.Operand.tmp 125], argTypes := #[68, 68] }, type := 68, pos := "ref.go:45", after := #[{ on := 0, ground := Go.Ground.data }, { on := 6, ground := Go.Ground.data }], guard := none }) rfl (fun K hK => ?_) (AllReadyH.cons (o := { dst := some 138, op := Go.Op.buildSlice 68 1 #[(0, Go.Operand.tmp 137)], type := 68, pos := "ref.go:45", after := #[{ on := 18, ground := Go.Ground.data }], guard := none }) rfl (fun K hK => ?_) AllReadyH.nil)
                      · obtain ⟨v7, V3, hr, ho, hb⟩ := append_empty V2 b0 k u1 xs HE0_2.out (HSR.out.past HB_2.out) (by omega) (Nat.le_of_lt (HE0_2.out.lt b0 rfl).2)
                        have HB_3 := Lib.hid (HB_2.out.trans (hb.mono HB_2.out.size))
                        have HE7_3 := Lib.hid (own_raise ho HG0.out)
                        have HE17_3 := Lib.hid (own_past HE17_2.out hb)
                        refine step_append_run rfl _ _ _ rfl _ _ _ _ rfl (by rfl) hr ?_
                        refine hK.out _ _ (HKS.out _ HB_3.out) (fun hHeld => ?_)
                        clear hK K
                        try simp only [Act.put, List.setIfInBounds_toArray, List.set_cons_zero, List.set_cons_succ]
                        clear ho hr
                        clear HB_2 HE0_2 HE17_2 hb
                        refine wpAnyH_ready (rs := [19]) (by kernel_rfl) (by simp) ?_
                        refine AllReadyH.cons (o := { dst := some 138, op := Go.Op.buildSlice 68 1 #[(0, Go.Operand.tmp 137)], type := 68, pos := "ref.go:45", after := #[{ on := 18, ground := Go.Ground.data }], guard := none }) rfl (fun K hK => ?_) AllReadyH.nil
                        go_simp
                        have hb : Below V3.heap.size V3 (V3.alloc (.cells #[.int .u64 (A0 i : Nat), .int .u64 (S0 i : Nat), .bool (W0 i), .bool (X0 i), .slice (some ⟨g, 0, none⟩) (S0 i) (S0 i)] 72)) := (Below.refl _ _).alloc (Nat.le_refl _) _
                        have HB_4 := Lib.hid (HB_3.out.trans (hb.mono HB_3.out.size))
                        have HE19_4 : Hid (∀ q x, ([.int .u64 (A0 i : Nat), .int .u64 (S0 i : Nat), .bool (W0 i), .bool (X0 i), .slice (some ⟨g, 0, none⟩) (S0 i) (S0 i)] : List Value)[q]? = some x → (V3.alloc (.cells #[.int .u64 (A0 i : Nat), .int .u64 (S0 i : Nat), .bool (W0 i), .bool (X0 i), .slice (some ⟨g, 0, none⟩) (S0 i) (S0 i)] 72)).cell? ((⟨V3.heap.size, 0, none⟩ : Addr).add q) = some x) := Lib.hid (fun q x hq => by rw [Go.WideShapes.add_plain, Nat.zero_add, World.cell?_alloc_at _ _ _ _ rfl, ← Array.getElem?_toList]; exact hq)
                        have HE7_4 := Lib.hid (own_past HE7_3.out hb)
                        have HE17_4 := Lib.hid (own_past HE17_3.out hb)
                        refine hK.out _ _ (HKS.out _ HB_4.out) (fun hHeld => ?_)
                        clear hK K
                        try simp only [Act.put, List.setIfInBounds_toArray, List.set_cons_zero, List.set_cons_succ]
                        clear HB_3 HE7_3 HE17_3 hb
                        generalize V3.alloc (.cells #[.int .u64 (A0 i : Nat), .int .u64 (S0 i : Nat), .bool (W0 i), .bool (X0 i), .slice (some ⟨g, 0, none⟩) (S0 i) (S0 i)] 72) = V4 at HB_4 HE7_4 HE17_4 HE19_4 hHeld ⊢
                        generalize V3.heap.size = p at HE19_4 ⊢
                        refine wpAnyH_ready (rs := [20]) (by kernel_rfl) (by simp) ?_
                        refine AllReadyH.cons (o := { dst := some 139, op := Go.Op.call { callee := Go.Callee.builtin Go.Builtin.append, args := #[Go.Operand.tmp 126, Go.Operand.tmp 138], argTypes := #[68, 68] }, type := 68, pos := "ref.go:45", after := #[{ on := 7, ground := Go.Ground.data }, { on := 19, ground := Go.Ground.data }, { on := 7, ground := Go.Ground.chain }], guard := none }) rfl (fun K hK => ?_) AllReadyH.nil
                        obtain ⟨v20, V5, hr, ho, hg⟩ := append_any V4 wq.heap.size k 1 v7 (.slice (some ⟨p, 0, none⟩) 1 1) xs [.int .u64 (A0 i : Nat), .int .u64 (S0 i : Nat), .bool (W0 i), .bool (X0 i), .slice (some ⟨g, 0, none⟩) (S0 i) (S0 i)] HE7_4.out (.inr ⟨⟨p, 0, none⟩, 1, rfl, rfl, HE19_4.out, fun x hx => by simp only [List.mem_cons, List.not_mem_nil, or_false] at hx; rcases hx with rfl | rfl | rfl | rfl | rfl <;> rfl⟩) (by omega) HB_4.out.size
                        have HB_5 := Lib.hid (HB_4.out.grown hg HB_4.out.size (fun q hq => (HE7_4.out.lt q hq).1))
                        have HO20 := Lib.hid ho
                        have HE17_5 := Lib.hid (own_grown HE17_4.out HE7_4.out (by decide) hg)
                        refine step_append_run rfl _ _ _ rfl _ _ _ _ rfl (by rfl) hr ?_
                        refine hK.out _ _ (HKS.out _ HB_5.out) (fun hHeld => ?_)
                        clear hK K
                        try simp only [Act.put, List.setIfInBounds_toArray, List.set_cons_zero, List.set_cons_succ]
                        clear ho hr hg
                        refine wpAnyH_take (i := 21) (oi := { dst := some 11, op := Go.Op.assign (Go.Operand.tmp 139), type := 68, pos := "ref.go:45", after := #[{ on := 20, ground := Go.Ground.data }, { on := 20, ground := Go.Ground.chain }, { on := 0, ground := Go.Ground.phase }, { on := 1, ground := Go.Ground.phase }, { on := 2, ground := Go.Ground.phase }, { on := 3, ground := Go.Ground.phase }, { on := 4, ground := Go.Ground.phase }, { on := 5, ground := Go.Ground.phase }, { on := 6, ground := Go.Ground.phase }, { on := 7, ground := Go.Ground.phase }, { on := 8, ground := Go.Ground.phase }, { on := 9, ground := Go.Ground.phase }, { on := 10, ground := Go.Ground.phase }, { on := 11, ground := Go.Ground.phase }, { on := 12, ground := Go.Ground.phase }, { on := 13, ground := Go.Ground.phase }, { on := 14, ground := Go.Ground.phase }, { on := 15, ground := Go.Ground.phase }, { on := 16, ground := Go.Ground.phase }, { on := 17, ground := Go.Ground.phase }, { on := 18, ground := Go.Ground.phase }, { on := 19, ground := Go.Ground.phase }, { on := 20, ground := Go.Ground.phase }], guard := none }) (v := ?_) rfl (by kernel_rfl) (by kernel_rfl) (by kernel_rfl) (fun _ _ _ h => h) (Or.inl ⟨by rfl, ?_⟩) (by assumption) ?_
                        rotate_left
                        · (intro w0 hSw; (try dsimp only at hSw); go_split_ands; go_simp; with_reducible rfl)
                        try simp only [Act.put, List.setIfInBounds_toArray, List.set_cons_zero, List.set_cons_succ]
                        refine wpAnyH_done (by kernel_rfl) ?_ _
                        clear hHeld
                        go_wp2_with fail
                        go_meet
                        case rel => exact ⟨g, S0 i, HB_5, Lib.hid (by rw [HXS.out]; exact HO20.out), HE17_5⟩
                      · go_simp
                        have hb : Below V2.heap.size V2 (V2.alloc (.cells #[.int .u64 (A0 i : Nat), .int .u64 (S0 i : Nat), .bool (W0 i), .bool (X0 i), .slice (some ⟨g, 0, none⟩) (S0 i) (S0 i)] 72)) := (Below.refl _ _).alloc (Nat.le_refl _) _
                        have HB_3 := Lib.hid (HB_2.out.trans (hb.mono HB_2.out.size))
                        have HE19_3 : Hid (∀ q x, ([.int .u64 (A0 i : Nat), .int .u64 (S0 i : Nat), .bool (W0 i), .bool (X0 i), .slice (some ⟨g, 0, none⟩) (S0 i) (S0 i)] : List Value)[q]? = some x → (V2.alloc (.cells #[.int .u64 (A0 i : Nat), .int .u64 (S0 i : Nat), .bool (W0 i), .bool (X0 i), .slice (some ⟨g, 0, none⟩) (S0 i) (S0 i)] 72)).cell? ((⟨V2.heap.size, 0, none⟩ : Addr).add q) = some x) := Lib.hid (fun q x hq => by rw [Go.WideShapes.add_plain, Nat.zero_add, World.cell?_alloc_at _ _ _ _ rfl, ← Array.getElem?_toList]; exact hq)
                        have HE0_3 := Lib.hid (own_past HE0_2.out hb)
                        have HE17_3 := Lib.hid (own_past HE17_2.out hb)
                        refine hK.out _ _ (HKS.out _ HB_3.out) (fun hHeld => ?_)
                        clear hK K
                        try simp only [Act.put, List.setIfInBounds_toArray, List.set_cons_zero, List.set_cons_succ]
                        clear HB_2 HE0_2 HE17_2 hb
                        generalize V2.alloc (.cells #[.int .u64 (A0 i : Nat), .int .u64 (S0 i : Nat), .bool (W0 i), .bool (X0 i), .slice (some ⟨g, 0, none⟩) (S0 i) (S0 i)] 72) = V3 at HB_3 HE0_3 HE17_3 HE19_3 hHeld ⊢
                        generalize V2.heap.size = p at HE19_3 ⊢
                        refine wpAnyH_ready (rs := [7]) (by kernel_rfl) (by simp) ?_
                        refine AllReadyH.cons (o := { dst := some 126, op := Go.Op.call { callee := Go.Callee.builtin Go.Builtin.append, args := #[Go.Operand.tmp 119, Go.Operand.tmp 125], argTypes := #[68, 68] }, type := 68, pos := "ref.go:45", after := #[{ on := 0, ground := Go.Ground.data }, { on := 6, ground := Go.Ground.data }], guard := none }) rfl (fun K hK => ?_) AllReadyH.nil
                        obtain ⟨v7, V4, hr, ho, hb⟩ := append_empty V3 b0 k u1 xs HE0_3.out (HSR.out.past HB_3.out) (by omega) (Nat.le_of_lt (HE0_3.out.lt b0 rfl).2)
                        have HB_4 := Lib.hid (HB_3.out.trans (hb.mono HB_3.out.size))
                        have HE7_4 := Lib.hid (own_raise ho HG0.out)
                        have HE17_4 := Lib.hid (own_past HE17_3.out hb)
                        have HE19_4 : Hid (∀ q x, ([.int .u64 (A0 i : Nat), .int .u64 (S0 i : Nat), .bool (W0 i), .bool (X0 i), .slice (some ⟨g, 0, none⟩) (S0 i) (S0 i)] : List Value)[q]? = some x → V4.cell? ((⟨p, 0, none⟩ : Addr).add q) = some x) := Lib.hid (fun q x hq => (hb.cell (World.block_lt_of_cell? _ _ (HE19_3.out q x hq))).trans (HE19_3.out q x hq))
                        refine step_append_run rfl _ _ _ rfl _ _ _ _ rfl (by rfl) hr ?_
                        refine hK.out _ _ (HKS.out _ HB_4.out) (fun hHeld => ?_)
                        clear hK K
                        try simp only [Act.put, List.setIfInBounds_toArray, List.set_cons_zero, List.set_cons_succ]
                        clear ho hr
                        clear HB_3 HE0_3 HE17_3 HE19_3 hb
                        refine wpAnyH_ready (rs := [20]) (by kernel_rfl) (by simp) ?_
                        refine AllReadyH.cons (o := { dst := some 139, op := Go.Op.call { callee := Go.Callee.builtin Go.Builtin.append, args := #[Go.Operand.tmp 126, Go.Operand.tmp 138], argTypes := #[68, 68] }, type := 68, pos := "ref.go:45", after := #[{ on := 7, ground := Go.Ground.data }, { on := 19, ground := Go.Ground.data }, { on := 7, ground := Go.Ground.chain }], guard := none }) rfl (fun K hK => ?_) AllReadyH.nil
                        obtain ⟨v20, V5, hr, ho, hg⟩ := append_any V4 wq.heap.size k 1 v7 (.slice (some ⟨p, 0, none⟩) 1 1) xs [.int .u64 (A0 i : Nat), .int .u64 (S0 i : Nat), .bool (W0 i), .bool (X0 i), .slice (some ⟨g, 0, none⟩) (S0 i) (S0 i)] HE7_4.out (.inr ⟨⟨p, 0, none⟩, 1, rfl, rfl, HE19_4.out, fun x hx => by simp only [List.mem_cons, List.not_mem_nil, or_false] at hx; rcases hx with rfl | rfl | rfl | rfl | rfl <;> rfl⟩) (by omega) HB_4.out.size
                        have HB_5 := Lib.hid (HB_4.out.grown hg HB_4.out.size (fun q hq => (HE7_4.out.lt q hq).1))
                        have HO20 := Lib.hid ho
                        have HE17_5 := Lib.hid (own_grown HE17_4.out HE7_4.out (by decide) hg)
                        refine step_append_run rfl _ _ _ rfl _ _ _ _ rfl (by rfl) hr ?_
                        refine hK.out _ _ (HKS.out _ HB_5.out) (fun hHeld => ?_)
                        clear hK K
                        try simp only [Act.put, List.setIfInBounds_toArray, List.set_cons_zero, List.set_cons_succ]
                        clear ho hr hg
                        refine wpAnyH_take (i := 21) (oi := { dst := some 11, op := Go.Op.assign (Go.Operand.tmp 139), type := 68, pos := "ref.go:45", after := #[{ on := 20, ground := Go.Ground.data }, { on := 20, ground := Go.Ground.chain }, { on := 0, ground := Go.Ground.phase }, { on := 1, ground := Go.Ground.phase }, { on := 2, ground := Go.Ground.phase }, { on := 3, ground := Go.Ground.phase }, { on := 4, ground := Go.Ground.phase }, { on := 5, ground := Go.Ground.phase }, { on := 6, ground := Go.Ground.phase }, { on := 7, ground := Go.Ground.phase }, { on := 8, ground := Go.Ground.phase }, { on := 9, ground := Go.Ground.phase }, { on := 10, ground := Go.Ground.phase }, { on := 11, ground := Go.Ground.phase }, { on := 12, ground := Go.Ground.phase }, { on := 13, ground := Go.Ground.phase }, { on := 14, ground := Go.Ground.phase }, { on := 15, ground := Go.Ground.phase }, { on := 16, ground := Go.Ground.phase }, { on := 17, ground := Go.Ground.phase }, { on := 18, ground := Go.Ground.phase }, { on := 19, ground := Go.Ground.phase }, { on := 20, ground := Go.Ground.phase }], guard := none }) (v := ?_) rfl (by kernel_rfl) (by kernel_rfl) (by kernel_rfl) (fun _ _ _ h => h) (Or.inl ⟨by rfl, ?_⟩) (by assumption) ?_
                        rotate_left
                        · (intro w0 hSw; (try dsimp only at hSw); go_split_ands; go_simp; with_reducible rfl)
                        try simp only [Act.put, List.setIfInBounds_toArray, List.set_cons_zero, List.set_cons_succ]
                        refine wpAnyH_done (by kernel_rfl) ?_ _
                        clear hHeld
                        go_wp2_with fail
                        go_meet
                        case rel => exact ⟨g, S0 i, HB_5, Lib.hid (by rw [HXS.out]; exact HO20.out), HE17_5⟩
                  · obtain ⟨V1, hmk, ho, hb⟩ := make_b V (S0 i) r4
                    have HB_1 := Lib.hid (HB_0.out.trans (hb.mono HB_0.out.size))
                    have HE17_1 := Lib.hid (own_raise ho HB_0.out.size)
                    go_simp
                    refine hK.out _ _ (HKS.out _ HB_1.out) (fun hHeld => ?_)
                    clear hK K
                    try simp only [Act.put, List.setIfInBounds_toArray, List.set_cons_zero, List.set_cons_succ]
                    clear ho hmk
                    clear HB_0 hb
                    generalize V.heap.size = g at HE17_1 ⊢
                    refine wpAnyH_take (i := 18) (oi := { dst := some 137, op := Go.Op.build 72 #[(0, Go.Operand.tmp 130), (1, Go.Operand.tmp 136)], type := 72, pos := "ref.go:45", after := #[{ on := 11, ground := Go.Ground.data }, { on := 17, ground := Go.Ground.data }], guard := none }) (v := ?_) rfl (by kernel_rfl) (by kernel_rfl) (by kernel_rfl) (fun _ _ _ h => h) (Or.inl ⟨by rfl, ?_⟩) (by assumption) ?_
                    rotate_left
                    · (intro w0 hSw; (try dsimp only at hSw); go_split_ands; go_simp; with_reducible rfl)
                    try simp only [Act.put, List.setIfInBounds_toArray, List.set_cons_zero, List.set_cons_succ]
                    refine wpAnyH_ready (rs := [0, 19]) (by kernel_rfl) (by simp) ?_
                    refine AllReadyH.cons (o := { dst := some 119, op := Go.Op.buildSlice 68 0 #[], type := 68, pos := "ref.go:45", after := #[], guard := none }) rfl (fun K hK => ?_) (AllReadyH.cons (o := { dst := some 138, op := Go.Op.buildSlice 68 1 #[(0, Go.Operand.tmp 137)], type := 68, pos := "ref.go:45", after := #[{ on := 18, ground := Go.Ground.data }], guard := none }) rfl (fun K hK => ?_) AllReadyH.nil)
                    · go_simp
                      have hb : Below V1.heap.size V1 (V1.alloc (.cells #[] 72)) := (Below.refl _ _).alloc (Nat.le_refl _) _
                      have HB_2 := Lib.hid (HB_1.out.trans (hb.mono HB_1.out.size))
                      have HE0_2 : Hid ((V1.alloc (.cells #[] 72)).ownsRow V1.heap.size 72 5 (.slice (some ⟨V1.heap.size, 0, none⟩) 0 0) 0 []) := Lib.hid (World.ownsRow_made V1 #[] 0 (Nat.le_refl _) (by unfold maxLen; omega) rfl)
                      have HG0 : Hid (wq.heap.size ≤ V1.heap.size) := Lib.hid HB_1.out.size
                      have HE17_2 := Lib.hid (own_past HE17_1.out hb)
                      refine hK.out _ _ (HKS.out _ HB_2.out) (fun hHeld => ?_)
                      clear hK K
                      try simp only [Act.put, List.setIfInBounds_toArray, List.set_cons_zero, List.set_cons_succ]
                      clear HB_1 HE17_1 hb
                      generalize V1.alloc (.cells #[] 72) = V2 at HB_2 HE0_2 HE17_2 hHeld ⊢
                      generalize V1.heap.size = b0 at HE0_2 HG0 ⊢
                      refine wpAnyH_ready (rs := [7, 19]) (by kernel_rfl) (by simp) ?_
                      refine AllReadyH.cons (o := { dst := some 126, op := Go.Op.call { callee := Go.Callee.builtin Go.Builtin.append, args := #[Go.Operand.tmp 119, Go.Operand.tmp 125], argTypes := #[68, 68] }, type := 68, pos := "ref.go:45", after := #[{ on := 0, ground := Go.Ground.data }, { on := 6, ground := Go.Ground.data }], guard := none }) rfl (fun K hK => ?_) (AllReadyH.cons (o := { dst := some 138, op := Go.Op.buildSlice 68 1 #[(0, Go.Operand.tmp 137)], type := 68, pos := "ref.go:45", after := #[{ on := 18, ground := Go.Ground.data }], guard := none }) rfl (fun K hK => ?_) AllReadyH.nil)
                      · obtain ⟨v7, V3, hr, ho, hb⟩ := append_empty V2 b0 k u1 xs HE0_2.out (HSR.out.past HB_2.out) (by omega) (Nat.le_of_lt (HE0_2.out.lt b0 rfl).2)
                        have HB_3 := Lib.hid (HB_2.out.trans (hb.mono HB_2.out.size))
                        have HE7_3 := Lib.hid (own_raise ho HG0.out)
                        have HE17_3 := Lib.hid (own_past HE17_2.out hb)
                        refine step_append_run rfl _ _ _ rfl _ _ _ _ rfl (by rfl) hr ?_
                        refine hK.out _ _ (HKS.out _ HB_3.out) (fun hHeld => ?_)
                        clear hK K
                        try simp only [Act.put, List.setIfInBounds_toArray, List.set_cons_zero, List.set_cons_succ]
                        clear ho hr
                        clear HB_2 HE0_2 HE17_2 hb
                        refine wpAnyH_ready (rs := [19]) (by kernel_rfl) (by simp) ?_
                        refine AllReadyH.cons (o := { dst := some 138, op := Go.Op.buildSlice 68 1 #[(0, Go.Operand.tmp 137)], type := 68, pos := "ref.go:45", after := #[{ on := 18, ground := Go.Ground.data }], guard := none }) rfl (fun K hK => ?_) AllReadyH.nil
                        go_simp
                        have hb : Below V3.heap.size V3 (V3.alloc (.cells #[.int .u64 (A0 i : Nat), .int .u64 (S0 i : Nat), .bool (W0 i), .bool (X0 i), .slice (some ⟨g, 0, none⟩) (S0 i) (S0 i)] 72)) := (Below.refl _ _).alloc (Nat.le_refl _) _
                        have HB_4 := Lib.hid (HB_3.out.trans (hb.mono HB_3.out.size))
                        have HE19_4 : Hid (∀ q x, ([.int .u64 (A0 i : Nat), .int .u64 (S0 i : Nat), .bool (W0 i), .bool (X0 i), .slice (some ⟨g, 0, none⟩) (S0 i) (S0 i)] : List Value)[q]? = some x → (V3.alloc (.cells #[.int .u64 (A0 i : Nat), .int .u64 (S0 i : Nat), .bool (W0 i), .bool (X0 i), .slice (some ⟨g, 0, none⟩) (S0 i) (S0 i)] 72)).cell? ((⟨V3.heap.size, 0, none⟩ : Addr).add q) = some x) := Lib.hid (fun q x hq => by rw [Go.WideShapes.add_plain, Nat.zero_add, World.cell?_alloc_at _ _ _ _ rfl, ← Array.getElem?_toList]; exact hq)
                        have HE7_4 := Lib.hid (own_past HE7_3.out hb)
                        have HE17_4 := Lib.hid (own_past HE17_3.out hb)
                        refine hK.out _ _ (HKS.out _ HB_4.out) (fun hHeld => ?_)
                        clear hK K
                        try simp only [Act.put, List.setIfInBounds_toArray, List.set_cons_zero, List.set_cons_succ]
                        clear HB_3 HE7_3 HE17_3 hb
                        generalize V3.alloc (.cells #[.int .u64 (A0 i : Nat), .int .u64 (S0 i : Nat), .bool (W0 i), .bool (X0 i), .slice (some ⟨g, 0, none⟩) (S0 i) (S0 i)] 72) = V4 at HB_4 HE7_4 HE17_4 HE19_4 hHeld ⊢
                        generalize V3.heap.size = p at HE19_4 ⊢
                        refine wpAnyH_ready (rs := [20]) (by kernel_rfl) (by simp) ?_
                        refine AllReadyH.cons (o := { dst := some 139, op := Go.Op.call { callee := Go.Callee.builtin Go.Builtin.append, args := #[Go.Operand.tmp 126, Go.Operand.tmp 138], argTypes := #[68, 68] }, type := 68, pos := "ref.go:45", after := #[{ on := 7, ground := Go.Ground.data }, { on := 19, ground := Go.Ground.data }, { on := 7, ground := Go.Ground.chain }], guard := none }) rfl (fun K hK => ?_) AllReadyH.nil
                        obtain ⟨v20, V5, hr, ho, hg⟩ := append_any V4 wq.heap.size k 1 v7 (.slice (some ⟨p, 0, none⟩) 1 1) xs [.int .u64 (A0 i : Nat), .int .u64 (S0 i : Nat), .bool (W0 i), .bool (X0 i), .slice (some ⟨g, 0, none⟩) (S0 i) (S0 i)] HE7_4.out (.inr ⟨⟨p, 0, none⟩, 1, rfl, rfl, HE19_4.out, fun x hx => by simp only [List.mem_cons, List.not_mem_nil, or_false] at hx; rcases hx with rfl | rfl | rfl | rfl | rfl <;> rfl⟩) (by omega) HB_4.out.size
                        have HB_5 := Lib.hid (HB_4.out.grown hg HB_4.out.size (fun q hq => (HE7_4.out.lt q hq).1))
                        have HO20 := Lib.hid ho
                        have HE17_5 := Lib.hid (own_grown HE17_4.out HE7_4.out (by decide) hg)
                        refine step_append_run rfl _ _ _ rfl _ _ _ _ rfl (by rfl) hr ?_
                        refine hK.out _ _ (HKS.out _ HB_5.out) (fun hHeld => ?_)
                        clear hK K
                        try simp only [Act.put, List.setIfInBounds_toArray, List.set_cons_zero, List.set_cons_succ]
                        clear ho hr hg
                        refine wpAnyH_take (i := 21) (oi := { dst := some 11, op := Go.Op.assign (Go.Operand.tmp 139), type := 68, pos := "ref.go:45", after := #[{ on := 20, ground := Go.Ground.data }, { on := 20, ground := Go.Ground.chain }, { on := 0, ground := Go.Ground.phase }, { on := 1, ground := Go.Ground.phase }, { on := 2, ground := Go.Ground.phase }, { on := 3, ground := Go.Ground.phase }, { on := 4, ground := Go.Ground.phase }, { on := 5, ground := Go.Ground.phase }, { on := 6, ground := Go.Ground.phase }, { on := 7, ground := Go.Ground.phase }, { on := 8, ground := Go.Ground.phase }, { on := 9, ground := Go.Ground.phase }, { on := 10, ground := Go.Ground.phase }, { on := 11, ground := Go.Ground.phase }, { on := 12, ground := Go.Ground.phase }, { on := 13, ground := Go.Ground.phase }, { on := 14, ground := Go.Ground.phase }, { on := 15, ground := Go.Ground.phase }, { on := 16, ground := Go.Ground.phase }, { on := 17, ground := Go.Ground.phase }, { on := 18, ground := Go.Ground.phase }, { on := 19, ground := Go.Ground.phase }, { on := 20, ground := Go.Ground.phase }], guard := none }) (v := ?_) rfl (by kernel_rfl) (by kernel_rfl) (by kernel_rfl) (fun _ _ _ h => h) (Or.inl ⟨by rfl, ?_⟩) (by assumption) ?_
                        rotate_left
                        · (intro w0 hSw; (try dsimp only at hSw); go_split_ands; go_simp; with_reducible rfl)
                        try simp only [Act.put, List.setIfInBounds_toArray, List.set_cons_zero, List.set_cons_succ]
                        refine wpAnyH_done (by kernel_rfl) ?_ _
                        clear hHeld
                        go_wp2_with fail
                        go_meet
                        case rel => exact ⟨g, S0 i, HB_5, Lib.hid (by rw [HXS.out]; exact HO20.out), HE17_5⟩
                      · go_simp
                        have hb : Below V2.heap.size V2 (V2.alloc (.cells #[.int .u64 (A0 i : Nat), .int .u64 (S0 i : Nat), .bool (W0 i), .bool (X0 i), .slice (some ⟨g, 0, none⟩) (S0 i) (S0 i)] 72)) := (Below.refl _ _).alloc (Nat.le_refl _) _
                        have HB_3 := Lib.hid (HB_2.out.trans (hb.mono HB_2.out.size))
                        have HE19_3 : Hid (∀ q x, ([.int .u64 (A0 i : Nat), .int .u64 (S0 i : Nat), .bool (W0 i), .bool (X0 i), .slice (some ⟨g, 0, none⟩) (S0 i) (S0 i)] : List Value)[q]? = some x → (V2.alloc (.cells #[.int .u64 (A0 i : Nat), .int .u64 (S0 i : Nat), .bool (W0 i), .bool (X0 i), .slice (some ⟨g, 0, none⟩) (S0 i) (S0 i)] 72)).cell? ((⟨V2.heap.size, 0, none⟩ : Addr).add q) = some x) := Lib.hid (fun q x hq => by rw [Go.WideShapes.add_plain, Nat.zero_add, World.cell?_alloc_at _ _ _ _ rfl, ← Array.getElem?_toList]; exact hq)
                        have HE0_3 := Lib.hid (own_past HE0_2.out hb)
                        have HE17_3 := Lib.hid (own_past HE17_2.out hb)
                        refine hK.out _ _ (HKS.out _ HB_3.out) (fun hHeld => ?_)
                        clear hK K
                        try simp only [Act.put, List.setIfInBounds_toArray, List.set_cons_zero, List.set_cons_succ]
                        clear HB_2 HE0_2 HE17_2 hb
                        generalize V2.alloc (.cells #[.int .u64 (A0 i : Nat), .int .u64 (S0 i : Nat), .bool (W0 i), .bool (X0 i), .slice (some ⟨g, 0, none⟩) (S0 i) (S0 i)] 72) = V3 at HB_3 HE0_3 HE17_3 HE19_3 hHeld ⊢
                        generalize V2.heap.size = p at HE19_3 ⊢
                        refine wpAnyH_ready (rs := [7]) (by kernel_rfl) (by simp) ?_
                        refine AllReadyH.cons (o := { dst := some 126, op := Go.Op.call { callee := Go.Callee.builtin Go.Builtin.append, args := #[Go.Operand.tmp 119, Go.Operand.tmp 125], argTypes := #[68, 68] }, type := 68, pos := "ref.go:45", after := #[{ on := 0, ground := Go.Ground.data }, { on := 6, ground := Go.Ground.data }], guard := none }) rfl (fun K hK => ?_) AllReadyH.nil
                        obtain ⟨v7, V4, hr, ho, hb⟩ := append_empty V3 b0 k u1 xs HE0_3.out (HSR.out.past HB_3.out) (by omega) (Nat.le_of_lt (HE0_3.out.lt b0 rfl).2)
                        have HB_4 := Lib.hid (HB_3.out.trans (hb.mono HB_3.out.size))
                        have HE7_4 := Lib.hid (own_raise ho HG0.out)
                        have HE17_4 := Lib.hid (own_past HE17_3.out hb)
                        have HE19_4 : Hid (∀ q x, ([.int .u64 (A0 i : Nat), .int .u64 (S0 i : Nat), .bool (W0 i), .bool (X0 i), .slice (some ⟨g, 0, none⟩) (S0 i) (S0 i)] : List Value)[q]? = some x → V4.cell? ((⟨p, 0, none⟩ : Addr).add q) = some x) := Lib.hid (fun q x hq => (hb.cell (World.block_lt_of_cell? _ _ (HE19_3.out q x hq))).trans (HE19_3.out q x hq))
                        refine step_append_run rfl _ _ _ rfl _ _ _ _ rfl (by rfl) hr ?_
                        refine hK.out _ _ (HKS.out _ HB_4.out) (fun hHeld => ?_)
                        clear hK K
                        try simp only [Act.put, List.setIfInBounds_toArray, List.set_cons_zero, List.set_cons_succ]
                        clear ho hr
                        clear HB_3 HE0_3 HE17_3 HE19_3 hb
                        refine wpAnyH_ready (rs := [20]) (by kernel_rfl) (by simp) ?_
                        refine AllReadyH.cons (o := { dst := some 139, op := Go.Op.call { callee := Go.Callee.builtin Go.Builtin.append, args := #[Go.Operand.tmp 126, Go.Operand.tmp 138], argTypes := #[68, 68] }, type := 68, pos := "ref.go:45", after := #[{ on := 7, ground := Go.Ground.data }, { on := 19, ground := Go.Ground.data }, { on := 7, ground := Go.Ground.chain }], guard := none }) rfl (fun K hK => ?_) AllReadyH.nil
                        obtain ⟨v20, V5, hr, ho, hg⟩ := append_any V4 wq.heap.size k 1 v7 (.slice (some ⟨p, 0, none⟩) 1 1) xs [.int .u64 (A0 i : Nat), .int .u64 (S0 i : Nat), .bool (W0 i), .bool (X0 i), .slice (some ⟨g, 0, none⟩) (S0 i) (S0 i)] HE7_4.out (.inr ⟨⟨p, 0, none⟩, 1, rfl, rfl, HE19_4.out, fun x hx => by simp only [List.mem_cons, List.not_mem_nil, or_false] at hx; rcases hx with rfl | rfl | rfl | rfl | rfl <;> rfl⟩) (by omega) HB_4.out.size
                        have HB_5 := Lib.hid (HB_4.out.grown hg HB_4.out.size (fun q hq => (HE7_4.out.lt q hq).1))
                        have HO20 := Lib.hid ho
                        have HE17_5 := Lib.hid (own_grown HE17_4.out HE7_4.out (by decide) hg)
                        refine step_append_run rfl _ _ _ rfl _ _ _ _ rfl (by rfl) hr ?_
                        refine hK.out _ _ (HKS.out _ HB_5.out) (fun hHeld => ?_)
                        clear hK K
                        try simp only [Act.put, List.setIfInBounds_toArray, List.set_cons_zero, List.set_cons_succ]
                        clear ho hr hg
                        refine wpAnyH_take (i := 21) (oi := { dst := some 11, op := Go.Op.assign (Go.Operand.tmp 139), type := 68, pos := "ref.go:45", after := #[{ on := 20, ground := Go.Ground.data }, { on := 20, ground := Go.Ground.chain }, { on := 0, ground := Go.Ground.phase }, { on := 1, ground := Go.Ground.phase }, { on := 2, ground := Go.Ground.phase }, { on := 3, ground := Go.Ground.phase }, { on := 4, ground := Go.Ground.phase }, { on := 5, ground := Go.Ground.phase }, { on := 6, ground := Go.Ground.phase }, { on := 7, ground := Go.Ground.phase }, { on := 8, ground := Go.Ground.phase }, { on := 9, ground := Go.Ground.phase }, { on := 10, ground := Go.Ground.phase }, { on := 11, ground := Go.Ground.phase }, { on := 12, ground := Go.Ground.phase }, { on := 13, ground := Go.Ground.phase }, { on := 14, ground := Go.Ground.phase }, { on := 15, ground := Go.Ground.phase }, { on := 16, ground := Go.Ground.phase }, { on := 17, ground := Go.Ground.phase }, { on := 18, ground := Go.Ground.phase }, { on := 19, ground := Go.Ground.phase }, { on := 20, ground := Go.Ground.phase }], guard := none }) (v := ?_) rfl (by kernel_rfl) (by kernel_rfl) (by kernel_rfl) (fun _ _ _ h => h) (Or.inl ⟨by rfl, ?_⟩) (by assumption) ?_
                        rotate_left
                        · (intro w0 hSw; (try dsimp only at hSw); go_split_ands; go_simp; with_reducible rfl)
                        try simp only [Act.put, List.setIfInBounds_toArray, List.set_cons_zero, List.set_cons_succ]
                        refine wpAnyH_done (by kernel_rfl) ?_ _
                        clear hHeld
                        go_wp2_with fail
                        go_meet
                        case rel => exact ⟨g, S0 i, HB_5, Lib.hid (by rw [HXS.out]; exact HO20.out), HE17_5⟩
                    · go_simp
                      have hb : Below V1.heap.size V1 (V1.alloc (.cells #[.int .u64 (A0 i : Nat), .int .u64 (S0 i : Nat), .bool (W0 i), .bool (X0 i), .slice (some ⟨g, 0, none⟩) (S0 i) (S0 i)] 72)) := (Below.refl _ _).alloc (Nat.le_refl _) _
                      have HB_2 := Lib.hid (HB_1.out.trans (hb.mono HB_1.out.size))
                      have HE19_2 : Hid (∀ q x, ([.int .u64 (A0 i : Nat), .int .u64 (S0 i : Nat), .bool (W0 i), .bool (X0 i), .slice (some ⟨g, 0, none⟩) (S0 i) (S0 i)] : List Value)[q]? = some x → (V1.alloc (.cells #[.int .u64 (A0 i : Nat), .int .u64 (S0 i : Nat), .bool (W0 i), .bool (X0 i), .slice (some ⟨g, 0, none⟩) (S0 i) (S0 i)] 72)).cell? ((⟨V1.heap.size, 0, none⟩ : Addr).add q) = some x) := Lib.hid (fun q x hq => by rw [Go.WideShapes.add_plain, Nat.zero_add, World.cell?_alloc_at _ _ _ _ rfl, ← Array.getElem?_toList]; exact hq)
                      have HE17_2 := Lib.hid (own_past HE17_1.out hb)
                      refine hK.out _ _ (HKS.out _ HB_2.out) (fun hHeld => ?_)
                      clear hK K
                      try simp only [Act.put, List.setIfInBounds_toArray, List.set_cons_zero, List.set_cons_succ]
                      clear HB_1 HE17_1 hb
                      generalize V1.alloc (.cells #[.int .u64 (A0 i : Nat), .int .u64 (S0 i : Nat), .bool (W0 i), .bool (X0 i), .slice (some ⟨g, 0, none⟩) (S0 i) (S0 i)] 72) = V2 at HB_2 HE17_2 HE19_2 hHeld ⊢
                      generalize V1.heap.size = p at HE19_2 ⊢
                      refine wpAnyH_ready (rs := [0]) (by kernel_rfl) (by simp) ?_
                      refine AllReadyH.cons (o := { dst := some 119, op := Go.Op.buildSlice 68 0 #[], type := 68, pos := "ref.go:45", after := #[], guard := none }) rfl (fun K hK => ?_) AllReadyH.nil
                      go_simp
                      have hb : Below V2.heap.size V2 (V2.alloc (.cells #[] 72)) := (Below.refl _ _).alloc (Nat.le_refl _) _
                      have HB_3 := Lib.hid (HB_2.out.trans (hb.mono HB_2.out.size))
                      have HE0_3 : Hid ((V2.alloc (.cells #[] 72)).ownsRow V2.heap.size 72 5 (.slice (some ⟨V2.heap.size, 0, none⟩) 0 0) 0 []) := Lib.hid (World.ownsRow_made V2 #[] 0 (Nat.le_refl _) (by unfold maxLen; omega) rfl)
                      have HG0 : Hid (wq.heap.size ≤ V2.heap.size) := Lib.hid HB_2.out.size
                      have HE17_3 := Lib.hid (own_past HE17_2.out hb)
                      have HE19_3 : Hid (∀ q x, ([.int .u64 (A0 i : Nat), .int .u64 (S0 i : Nat), .bool (W0 i), .bool (X0 i), .slice (some ⟨g, 0, none⟩) (S0 i) (S0 i)] : List Value)[q]? = some x → (V2.alloc (.cells #[] 72)).cell? ((⟨p, 0, none⟩ : Addr).add q) = some x) := Lib.hid (fun q x hq => (hb.cell (World.block_lt_of_cell? _ _ (HE19_2.out q x hq))).trans (HE19_2.out q x hq))
                      refine hK.out _ _ (HKS.out _ HB_3.out) (fun hHeld => ?_)
                      clear hK K
                      try simp only [Act.put, List.setIfInBounds_toArray, List.set_cons_zero, List.set_cons_succ]
                      clear HB_2 HE17_2 HE19_2 hb
                      generalize V2.alloc (.cells #[] 72) = V3 at HB_3 HE0_3 HE17_3 HE19_3 hHeld ⊢
                      generalize V2.heap.size = b0 at HE0_3 HG0 ⊢
                      refine wpAnyH_ready (rs := [7]) (by kernel_rfl) (by simp) ?_
                      refine AllReadyH.cons (o := { dst := some 126, op := Go.Op.call { callee := Go.Callee.builtin Go.Builtin.append, args := #[Go.Operand.tmp 119, Go.Operand.tmp 125], argTypes := #[68, 68] }, type := 68, pos := "ref.go:45", after := #[{ on := 0, ground := Go.Ground.data }, { on := 6, ground := Go.Ground.data }], guard := none }) rfl (fun K hK => ?_) AllReadyH.nil
                      obtain ⟨v7, V4, hr, ho, hb⟩ := append_empty V3 b0 k u1 xs HE0_3.out (HSR.out.past HB_3.out) (by omega) (Nat.le_of_lt (HE0_3.out.lt b0 rfl).2)
                      have HB_4 := Lib.hid (HB_3.out.trans (hb.mono HB_3.out.size))
                      have HE7_4 := Lib.hid (own_raise ho HG0.out)
                      have HE17_4 := Lib.hid (own_past HE17_3.out hb)
                      have HE19_4 : Hid (∀ q x, ([.int .u64 (A0 i : Nat), .int .u64 (S0 i : Nat), .bool (W0 i), .bool (X0 i), .slice (some ⟨g, 0, none⟩) (S0 i) (S0 i)] : List Value)[q]? = some x → V4.cell? ((⟨p, 0, none⟩ : Addr).add q) = some x) := Lib.hid (fun q x hq => (hb.cell (World.block_lt_of_cell? _ _ (HE19_3.out q x hq))).trans (HE19_3.out q x hq))
                      refine step_append_run rfl _ _ _ rfl _ _ _ _ rfl (by rfl) hr ?_
                      refine hK.out _ _ (HKS.out _ HB_4.out) (fun hHeld => ?_)
                      clear hK K
                      try simp only [Act.put, List.setIfInBounds_toArray, List.set_cons_zero, List.set_cons_succ]
                      clear ho hr
                      clear HB_3 HE0_3 HE17_3 HE19_3 hb
                      refine wpAnyH_ready (rs := [20]) (by kernel_rfl) (by simp) ?_
                      refine AllReadyH.cons (o := { dst := some 139, op := Go.Op.call { callee := Go.Callee.builtin Go.Builtin.append, args := #[Go.Operand.tmp 126, Go.Operand.tmp 138], argTypes := #[68, 68] }, type := 68, pos := "ref.go:45", after := #[{ on := 7, ground := Go.Ground.data }, { on := 19, ground := Go.Ground.data }, { on := 7, ground := Go.Ground.chain }], guard := none }) rfl (fun K hK => ?_) AllReadyH.nil
                      obtain ⟨v20, V5, hr, ho, hg⟩ := append_any V4 wq.heap.size k 1 v7 (.slice (some ⟨p, 0, none⟩) 1 1) xs [.int .u64 (A0 i : Nat), .int .u64 (S0 i : Nat), .bool (W0 i), .bool (X0 i), .slice (some ⟨g, 0, none⟩) (S0 i) (S0 i)] HE7_4.out (.inr ⟨⟨p, 0, none⟩, 1, rfl, rfl, HE19_4.out, fun x hx => by simp only [List.mem_cons, List.not_mem_nil, or_false] at hx; rcases hx with rfl | rfl | rfl | rfl | rfl <;> rfl⟩) (by omega) HB_4.out.size
                      have HB_5 := Lib.hid (HB_4.out.grown hg HB_4.out.size (fun q hq => (HE7_4.out.lt q hq).1))
                      have HO20 := Lib.hid ho
                      have HE17_5 := Lib.hid (own_grown HE17_4.out HE7_4.out (by decide) hg)
                      refine step_append_run rfl _ _ _ rfl _ _ _ _ rfl (by rfl) hr ?_
                      refine hK.out _ _ (HKS.out _ HB_5.out) (fun hHeld => ?_)
                      clear hK K
                      try simp only [Act.put, List.setIfInBounds_toArray, List.set_cons_zero, List.set_cons_succ]
                      clear ho hr hg
                      refine wpAnyH_take (i := 21) (oi := { dst := some 11, op := Go.Op.assign (Go.Operand.tmp 139), type := 68, pos := "ref.go:45", after := #[{ on := 20, ground := Go.Ground.data }, { on := 20, ground := Go.Ground.chain }, { on := 0, ground := Go.Ground.phase }, { on := 1, ground := Go.Ground.phase }, { on := 2, ground := Go.Ground.phase }, { on := 3, ground := Go.Ground.phase }, { on := 4, ground := Go.Ground.phase }, { on := 5, ground := Go.Ground.phase }, { on := 6, ground := Go.Ground.phase }, { on := 7, ground := Go.Ground.phase }, { on := 8, ground := Go.Ground.phase }, { on := 9, ground := Go.Ground.phase }, { on := 10, ground := Go.Ground.phase }, { on := 11, ground := Go.Ground.phase }, { on := 12, ground := Go.Ground.phase }, { on := 13, ground := Go.Ground.phase }, { on := 14, ground := Go.Ground.phase }, { on := 15, ground := Go.Ground.phase }, { on := 16, ground := Go.Ground.phase }, { on := 17, ground := Go.Ground.phase }, { on := 18, ground := Go.Ground.phase }, { on := 19, ground := Go.Ground.phase }, { on := 20, ground := Go.Ground.phase }], guard := none }) (v := ?_) rfl (by kernel_rfl) (by kernel_rfl) (by kernel_rfl) (fun _ _ _ h => h) (Or.inl ⟨by rfl, ?_⟩) (by assumption) ?_
                      rotate_left
                      · (intro w0 hSw; (try dsimp only at hSw); go_split_ands; go_simp; with_reducible rfl)
                      try simp only [Act.put, List.setIfInBounds_toArray, List.set_cons_zero, List.set_cons_succ]
                      refine wpAnyH_done (by kernel_rfl) ?_ _
                      clear hHeld
                      go_wp2_with fail
                      go_meet
                      case rel => exact ⟨g, S0 i, HB_5, Lib.hid (by rw [HXS.out]; exact HO20.out), HE17_5⟩
                case rest =>
                  obtain ⟨g22, c22, HBy, HOy, HGy⟩ := hcut
                  obtain ⟨va, cp, rfl, hcp, _, hs2⟩ := HTc.out.srcs hk
                  have hrow := (HTc.out.past HBy.out).row
                  have c1 : wc.cell? ⟨w.heap.size, 0, none⟩ = some (.slice va i cp) := by rw [cell_of_row _ _ 0 #[_] 70 _ hrow]; rfl
                  have HSR2 := Lib.hid (hs2.past HBy.out)
                  have hwq : w.heap.size < wq.heap.size := (Array.getElem?_eq_some_iff.1 HTc.out.row).1
                  have HWQ := Lib.hid hwq
                  have gk0 : (0 : Int) ≤ k := by omega
                  have gk1 : (k : Int) ≤ i := by omega
                  obtain ⟨v3, w3, hr, ho3, hg3⟩ := append_any wc wq.heap.size (k + 1) (i - k) _ _ _ _ HOy.out HSR2.out (by omega) HBy.out.size
                  obtain ⟨a3, cp3, rfl, _⟩ := own_form ho3
                  rw [show (k + 1) + (i - k) = i + 1 by omega] at ho3 hr
                  have HR3 := Lib.hid hr
                  have hrow3 : w3.heap[w.heap.size]? = some (.cells #[.slice va i cp] 70 (0, 0)) := (hg3.block _ (by have := HBy.out.size; omega) (fun e => by have := (HOy.out.lt _ e.symm).1; omega)).trans hrow
                  have c13 : w3.cell? ⟨w.heap.size, 0, none⟩ = some (.slice va i cp) := by rw [cell_of_row w3 _ 0 #[_] 70 _ hrow3]; rfl
                  have f13 := frozen_of_row w3 w.heap.size 0 #[_] 70 hrow3
                  have HST : Hid (TwAt 70 72 (w3.setCell ⟨w.heap.size, 0, none⟩ (.slice a3 (i + 1) cp3)) w.heap.size (zMe (i + 1) (insF k A (A0 i)) (insF k S (S0 i)) (insF k W (W0 i)) (insF k X (X0 i))) (i + 1) (.slice a3 (i + 1) cp3) (insF k B g22) (insF k C c22)) := Lib.hid (by
                    have hset : ∀ q, q ≠ w.heap.size → (w3.setCell ⟨w.heap.size, 0, none⟩ (.slice a3 (i + 1) cp3)).heap[q]? = w3.heap[q]? := fun q hq => Below.heap_setCell _ _ _ _ hq
                    refine HTc.out.ins hk ?_ ?_ (fun q hq hne => ?_) ?_
                    · rw [setCell_eq_setRow w3 w.heap.size 0 #[_] 70 (0, 0) _ hrow3]
                      exact setRow_heap _ _ _ _ _ _ hrow3
                    · exact own_kept (own_raise ho3 hwq) fun q hq => hset q (by have := (ho3.lt q hq).1; omega)
                    · exact (hset q hne).trans ((hg3.block q (by have := HBy.out.size; omega) (fun e => by have := (HOy.out.lt _ e.symm).1; omega)).trans (HBy.out.block q hq))
                    · exact own_kept (own_grown HGy.out HOy.out (by decide) hg3) fun q hq => hset q (by have := (HGy.out.lt q hq).1; omega))
                  have HB3 : Hid (Below w.heap.size w (w3.setCell ⟨w.heap.size, 0, none⟩ (.slice a3 (i + 1) cp3))) := Lib.hid (((HBc.out.trans (HBy.out.mono HBc.out.size)).grown hg3 (by have := HBy.out.size; omega) (fun q hq => by have := (HOy.out.lt q hq).1; omega)).setCell (Nat.le_refl _) _)
                  have HD3 := Lib.hid (HD.out.ins hk)
                  have HU3 := Lib.hid (HU.out.ins hk HKA.out HK2.out)
                  clear hrow hs2 hwq hr ho3 hg3 hrow3 HD HU HK2 HKA
                  go_wp2_with (at_builtin; refine wpList_append_run rfl _ _ _ rfl _ _ _ _ rfl rfl HR3.out ?_)
                  all_goals exact ⟨⟨i + 1, _, _, _, _, _, _, _, by omega, by go_num, HST, HD3, HU3, HB3⟩, by simp [intOf]; omega⟩
        · have hin : i = n := by omega
          rw [hin] at HT HD HU ⊢
          clear hlt hi hin i
          go_wp2
          refine bodyPost_ret (v := .tuple #[.pointer (some ⟨w.heap.size, 0, none⟩), .int .i64 0]) (by simp [results, Try.results7, go_sem]) rfl ⟨HB.out, .inl ⟨HR.out, w.heap.size, A, S, W, X, v, B, C, rfl, HD.out, HU.out, HT.out.done (RightR.ok (RightD.toR HD.out (fun x y hxy hy => Nat.le_of_lt (HU.out x y hxy hy)) HR.out) n2 W X)⟩⟩
end Go.Proofs.Ytjcbhomfggjmhaa.Mm
