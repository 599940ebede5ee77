import Derived.Test.YthgpolddbadfmaaGp
namespace Go.Proofs.Ythgpolddbadfmaa
open Go.ChangeShapes Go.WideShapes Go.ChangeAt Go.RowKit
set_option linter.unusedVariables false
theorem ret7q {fn : Func} (h : fn.results = #[.cell 2 23]) (w W : World) (tmps : Array Value) (v0 v1 v2 v3 v4 v5 v6 : Value) (hp : tmps.getD 2 undef = .pointer (some ⟨w.heap.size, 0, none⟩))
    (hW : W.heap[w.heap.size]? = some (.cells z7 23 (0, 0))) (hB : Below w.heap.size w W) {Q : Ending → World → Prop} (hq : ∀ w', Below w.heap.size w w' → Q (.returned (.agg #[v0, v1, v2, v3, v4, v5, v6])) w') :
    bodyPost Try.prog fn Q Exit.ret ⟨tmps, []⟩ (((((((W.setCell ⟨w.heap.size, 0, none⟩ v0).setCell ⟨w.heap.size, 1, none⟩ v1).setCell ⟨w.heap.size, 2, none⟩ v2).setCell ⟨w.heap.size, 3, none⟩ v3).setCell ⟨w.heap.size, 4, none⟩ v4).setCell ⟨w.heap.size, 5, none⟩ v5).setCell ⟨w.heap.size, 6, none⟩ v6) := by
  rw [set7 W w.heap.size v0 v1 v2 v3 v4 v5 v6 hW]
  exact bodyPost_ret (results_cell_row h _ _ w.heap.size 23 _ (0, 0) _ hp (setRow_heap _ _ _ _ _ _ hW) Try.underlying23 rfl info23) rfl (hq _ (below_setRow hB _ (Nat.le_refl _) _))
/-- The world behind the result's cell. -/
def W0 (w : World) : World := w.alloc (.cells #[.int .i64 0, .int .i64 0, .int .i64 0, .int .i64 0, .int .i64 0, .int .i64 0, .int .i64 0] 23)
def B0 (w W : World) : Prop := Below (W0 w).heap.size (W0 w) W
theorem B0.next {w W W' : World} (h : B0 w W) (h' : Below W.heap.size W W') : B0 w W' := Below.trans h (h'.mono (Below.size h))
theorem B0.al {w W : World} (h : B0 w W) (o : Obj) : B0 w (W.alloc o) := Below.alloc h (Below.size h) o
theorem ic {w' W : World} {v0 v1 v2 v3 v4 v5 v6 : Value} (hB : Below (w'.alloc (.cells #[v0, v1, v2, v3, v4, v5, v6] 23)).heap.size (w'.alloc (.cells #[v0, v1, v2, v3, v4, v5, v6] 23)) W) :
    W.cell? ⟨w'.heap.size, 0, none⟩ = some v0 ∧ W.cell? ⟨w'.heap.size, 1, none⟩ = some v1 ∧ W.cell? ⟨w'.heap.size, 2, none⟩ = some v2 ∧ W.cell? ⟨w'.heap.size, 3, none⟩ = some v3 ∧ W.cell? ⟨w'.heap.size, 4, none⟩ = some v4 ∧ W.cell? ⟨w'.heap.size, 5, none⟩ = some v5 ∧ W.cell? ⟨w'.heap.size, 6, none⟩ = some v6 := by
  have hs : W.heap[w'.heap.size]? = some (.cells #[v0, v1, v2, v3, v4, v5, v6] 23 (0, 0)) := (hB.block w'.heap.size (by simp)).trans (heap_alloc_new w' _)
  refine ⟨?_, ?_, ?_, ?_, ?_, ?_, ?_⟩
  all_goals (unfold World.cell?; simp only [hs]; rfl)
def nohit (j : Nat) (x : Int) : Prop := ∀ d n m a c i, okN j d n m a c i = true → wordN j d n m a c i ≠ x
def RP (x : Int) (w : World) (e : Ending) (w' : World) : Prop := (∃ o d n m a c i : Int, e = .returned (I7 o d n m a c i) ∧ DecP x o d n m a c i) ∧ Below w.heap.size w w'
theorem rins_c (x : Int) (w : World) (hx : 0 ≤ x) (hx' : x < 4294967296) : Calls Try.prog 19 #[.int .u32 x] w (RP x w) := by
  go_enter Try.func19, Try.ntmps19
  go_wp2
  go_loopw [3, 4, 5, 6, 7, 8] (fun o mo k p x1 e1 wr => ∃ j : Nat, 1 ≤ j ∧ j ≤ 43 ∧ o = .int .i64 j ∧ Hid (∀ q, 1 ≤ q → q < j → nohit q x) ∧ Hid (B0 w wr)) (fun o _ _ _ _ _ _ => 43 - (intOf o).toNat)
  case atStart => exact ⟨1, by decide, by decide, rfl, Lib.hid (fun q h1 h2 => by omega), Lib.hid (Below.refl _ _)⟩
  case round =>
    obtain ⟨j, h1, h43, rfl, HN, HB⟩ := hrel
    by_cases hlt : j < 43
    · by_cases hj : j = 37
      · have H45 := Lib.hid (fun w => guess_37 x w hx hx')
        obtain ⟨op, hop⟩ : ∃ op : Int, op = (j : Int) := ⟨_, rfl⟩
        rw [← hop]
        have h37 : op = 37 := by omega
        subst h37
        clear hop
        go_wp2
        go_loopw [5, 6, 7, 8] (fun k p x1 e1 wi => ∃ kk : Nat, kk ≤ 3 ∧ k = .int .i64 kk ∧ Hid (∀ q : Nat, q < kk → wordN 37 0 0 0 0 0 (q : Int) ≠ x) ∧ Hid (B0 w wi)) (fun k _ _ _ _ => 4 - (intOf k).toNat)
        case atStart => exact ⟨0, by decide, rfl, Lib.hid (fun q h => by omega), HB⟩
        case round =>
          obtain ⟨kk, hk3, rfl, HQ, HBi⟩ := hrel
          by_cases hk : kk < 3
          · have hok : okN 37 0 0 0 0 0 (kk : Int) = true := by
              have : kk = 0 ∨ kk = 1 ∨ kk = 2 := by omega
              rcases this with rfl | rfl | rfl <;> rfl
            have H11 := Lib.hid (fun w => rword_g 37 0 0 0 0 0 (kk : Int) 37 (by decide) rfl w hok)
            have HOK := Lib.hid hok
            obtain ⟨v, HV⟩ : ∃ v : Int, Hid (v = wordN 37 0 0 0 0 0 (kk : Int)) := ⟨_, Lib.hid rfl⟩
            rw [← HV.out] at H11
            clear hok
            by_cases hv : v = x
            · subst hv
              have HD : Hid (DecP v 37 0 0 0 0 0 (kk : Int)) := Lib.hid (.inl ⟨37, by decide, by decide, rfl, HOK.out, HV.out.symm⟩)
              go_wp2_with (first | (go_at_call 45; refine (H45.out _).mono ?_; rintro e w1 ⟨rfl, hb⟩; have HB1 := Lib.hid (HBi.out.next hb); clear hb) | (go_at_call 11; refine (H11.out _).mono ?_; rintro e w2 ⟨rfl, hb⟩; have HB2 := Lib.hid ((HB1.out.al _).next hb); obtain ⟨x0, x1, x2, x3, x4, x5, x6⟩ := ic hb; obtain ⟨c0, f0, c1, f1, c2, f2, c3, f3, c4, f4, c5, f5, c6, f6⟩ := fr_k w w2 HB2.out; clear hb))
              exact ret7q rfl w _ _ _ _ _ _ _ _ _ rfl (fr_b w w2 HB2.out).1 (fr_b w w2 HB2.out).2 (fun w' hw' => ⟨⟨_, _, _, _, _, _, _, rfl, HD.out⟩, hw'⟩)
            · have hv' : (v == x) = false := by simpa using hv
              have HJ : Hid (∀ q : Nat, q < kk + 1 → wordN 37 0 0 0 0 0 (q : Int) ≠ x) := Lib.hid (fun q h => by
                rcases Nat.lt_or_ge q kk with h' | h'
                · exact HQ.out q h'
                · rw [show q = kk from by omega, ← HV.out]; exact hv)
              clear hv
              go_wp2_with (first | (go_at_call 45; refine (H45.out _).mono ?_; rintro e w1 ⟨rfl, hb⟩; have HB1 := Lib.hid (HBi.out.next hb); clear hb) | (go_at_call 11; refine (H11.out _).mono ?_; rintro e w2 ⟨rfl, hb⟩; have HB2 := Lib.hid ((HB1.out.al _).next hb); obtain ⟨x0, x1, x2, x3, x4, x5, x6⟩ := ic hb; obtain ⟨c0, f0, c1, f1, c2, f2, c3, f3, c4, f4, c5, f5, c6, f6⟩ := fr_k w w2 HB2.out; clear hb))
              go_roundw
              case rel => exact ⟨kk + 1, by omega, by go_num, HJ, HB2⟩
              case measure => simp [intOf]; omega
          · obtain rfl : kk = 3 := by omega
            have HNJ : Hid (nohit 37 x) := Lib.hid (fun d n m a c i hok hw => by
              have h' : ok_37 d n m a c i = true := hok
              simp only [ok_37, wi, Bool.and_eq_true, decide_eq_true_eq, beq_iff_eq] at h'
              obtain ⟨⟨⟨⟨⟨rfl, rfl⟩, rfl⟩, rfl⟩, rfl⟩, h0, h2⟩ := h'
              have : i = 0 ∨ i = 1 ∨ i = 2 := by omega
              rcases this with rfl | rfl | rfl
              · exact HQ.out 0 (by decide) hw
              · exact HQ.out 1 (by decide) hw
              · exact HQ.out 2 (by decide) hw)
            go_wp2
            go_roundw
            case rel => exact ⟨38, by omega, by omega, by go_num, Lib.hid (fun q h2 h3 => by
              rcases Nat.lt_or_ge q j with h | h
              · exact HN.out q h2 h
              · rw [show q = 37 from by omega]; exact HNJ.out), HBi⟩
            case measure => simp [intOf]
      · obtain ⟨v, e, hw11, hv0, hv1⟩ := gword j h1 hlt (j : Int) x rfl hx hx'
        have H45 := Lib.hid (fun w => guess_g x (j : Int) j hlt rfl w hx hx')
        have H11 := Lib.hid hw11
        have HV0 := Lib.hid hv0
        have HV1 := Lib.hid hv1
        have HNO := Lib.hid (nohit_of j h1 hlt hj x hx hx')
        clear hw11 hv0 hv1
        generalize gd j x = gd0 at H45 H11 HV0 HV1 HNO
        generalize gn j x = gn0 at H45 H11 HV0 HV1 HNO
        generalize gm j x = gm0 at H45 H11 HV0 HV1 HNO
        generalize ga j x = ga0 at H45 H11 HV0 HV1 HNO
        generalize gc j x = gc0 at H45 H11 HV0 HV1 HNO
        generalize gi j x = gi0 at H45 H11 HV0 HV1 HNO
        have hd : decide ((j : Int) ≤ 42) = true := decide_eq_true (by omega)
        have hj' : ((j : Int) == 37) = false := by simpa using (show ¬ (j : Int) = 37 by omega)
        go_wp2
        go_loopw [5, 6, 7, 8] (fun k p x1 e1 wi => Hid (B0 w wi) ∧ (k = .int .i64 0 ∨ (k = .int .i64 1 ∧ Hid (nohit j x)))) (fun k _ _ _ _ => 2 - (intOf k).toNat)
        case atStart => exact ⟨HB, .inl rfl⟩
        case round =>
          obtain ⟨HBi, rfl | ⟨rfl, HNJ⟩⟩ := hrel
          · by_cases he : e = 0
            · subst he
              by_cases hv : v = x
              · subst hv
                have HD : Hid (DecP v (j : Int) gd0 gn0 gm0 ga0 gc0 gi0) := Lib.hid (.inl ⟨j, h1, hlt, rfl, (HV0.out rfl).1, (HV0.out rfl).2⟩)
                go_wp2_with (first | (go_at_call 45; refine (H45.out _).mono ?_; rintro e w1 ⟨rfl, hb⟩; have HB1 := Lib.hid (HBi.out.next hb); clear hb) | (go_at_call 11; refine (H11.out _).mono ?_; rintro e w2 ⟨rfl, hb⟩; have HB2 := Lib.hid ((HB1.out.al _).next hb); obtain ⟨x0, x1, x2, x3, x4, x5, x6⟩ := ic hb; obtain ⟨c0, f0, c1, f1, c2, f2, c3, f3, c4, f4, c5, f5, c6, f6⟩ := fr_k w w2 HB2.out; clear hb))
                exact ret7q rfl w _ _ _ _ _ _ _ _ _ rfl (fr_b w w2 HB2.out).1 (fr_b w w2 HB2.out).2 (fun w' hw' => ⟨⟨_, _, _, _, _, _, _, rfl, HD.out⟩, hw'⟩)
              · have hv' : (v == x) = false := by simpa using hv
                have HJ : Hid (nohit j x) := Lib.hid (HNO.out fun _ => by rw [(HV0.out rfl).2]; exact hv)
                clear hv
                go_wp2_with (first | (go_at_call 45; refine (H45.out _).mono ?_; rintro e w1 ⟨rfl, hb⟩; have HB1 := Lib.hid (HBi.out.next hb); clear hb) | (go_at_call 11; refine (H11.out _).mono ?_; rintro e w2 ⟨rfl, hb⟩; have HB2 := Lib.hid ((HB1.out.al _).next hb); obtain ⟨x0, x1, x2, x3, x4, x5, x6⟩ := ic hb; obtain ⟨c0, f0, c1, f1, c2, f2, c3, f3, c4, f4, c5, f5, c6, f6⟩ := fr_k w w2 HB2.out; clear hb))
                go_roundw
                case rel => exact ⟨HB2, .inr ⟨by go_num, HJ⟩⟩
                case measure => simp [intOf]
            · have he' : (e == 0) = false := by simpa using he
              have HJ : Hid (nohit j x) := Lib.hid (HNO.out fun h => by rw [HV1.out he] at h; cases h)
              clear he
              go_wp2_with (first | (go_at_call 45; refine (H45.out _).mono ?_; rintro e w1 ⟨rfl, hb⟩; have HB1 := Lib.hid (HBi.out.next hb); clear hb) | (go_at_call 11; refine (H11.out _).mono ?_; rintro e w2 ⟨rfl, hb⟩; have HB2 := Lib.hid ((HB1.out.al _).next hb); obtain ⟨x0, x1, x2, x3, x4, x5, x6⟩ := ic hb; obtain ⟨c0, f0, c1, f1, c2, f2, c3, f3, c4, f4, c5, f5, c6, f6⟩ := fr_k w w2 HB2.out; clear hb))
              go_roundw
              case rel => exact ⟨HB2, .inr ⟨by go_num, HJ⟩⟩
              case measure => simp [intOf]
          · go_wp2
            go_roundw
            case rel => exact ⟨j + 1, by omega, by omega, by go_num, Lib.hid (fun q h2 h3 => by
              rcases Nat.lt_or_ge q j with h | h
              · exact HN.out q h2 h
              · rw [show q = j from by omega]; exact HNJ.out), HBi⟩
            case measure => simp [intOf]; omega
    · obtain rfl : j = 43 := by omega
      have hg := fun w => guess_0 x w hx hx'
      have HD : Hid (DecP x 0 0 0 0 0 0 (fd x 0 16)) := Lib.hid (.inr ⟨⟨rfl, rfl, rfl, rfl, rfl, rfl, rfl⟩, fun j h1 h2 => HN.out j h1 h2⟩)
      generalize fd x 0 16 = u at hg HD
      have HB' := HB
      go_wp2_with (go_at_call 45; refine (hg _).mono ?_; rintro e w1 ⟨rfl, hb⟩; have HB2 := Lib.hid (HB'.out.next hb); obtain ⟨c0, f0, c1, f1, c2, f2, c3, f3, c4, f4, c5, f5, c6, f6⟩ := fr_k w w1 HB2.out; clear hb)
      exact ret7q rfl w _ _ _ _ _ _ _ _ _ rfl (fr_b w w1 HB2.out).1 (fr_b w w1 HB2.out).2 (fun w' hw' => ⟨⟨_, _, _, _, _, _, _, rfl, HD.out⟩, hw'⟩)
end Go.Proofs.Ythgpolddbadfmaa
namespace Go.Proofs.Ythgpolddbadfmaa
open Go.ChangeShapes Go.WideShapes Go.ChangeAt Go.RowKit
set_option linter.unusedVariables false
theorem decP_uniq {x o d n m a c i o2 d2 n2 m2 a2 c2 i2 : Int} (h : DecP x o d n m a c i) (h' : DecP x o2 d2 n2 m2 a2 c2 i2) : o = o2 ∧ d = d2 ∧ n = n2 ∧ m = m2 ∧ a = a2 ∧ c = c2 ∧ i = i2 := by
  rcases h with ⟨j, h1, h43, rfl, hok, hw⟩ | ⟨⟨rfl, rfl, rfl, rfl, rfl, rfl, rfl⟩, hno⟩
  · rcases h' with ⟨j2, h1', h43', rfl, hok', hw'⟩ | ⟨_, hno⟩
    · obtain ⟨l, hl, hlw⟩ := wordN_lays j h43 d n m a c i
      obtain ⟨l', hl', hlw'⟩ := wordN_lays j2 h43' d2 n2 m2 a2 c2 i2
      obtain rfl : j = j2 := unlike_ops j j2 h43 h43' l l' hl hl' (by rw [← hlw, ← hlw', hw, hw'])
      exact ⟨rfl, wordN_inj j h43 d n m a c i d2 n2 m2 a2 c2 i2 hok hok' (by rw [hw, hw'])⟩
    · exact absurd hw (hno j h1 h43 d n m a c i hok)
  · rcases h' with ⟨j2, h1', h43', rfl, hok', hw'⟩ | ⟨⟨rfl, rfl, rfl, rfl, rfl, rfl, rfl⟩, _⟩
    · exact absurd hw' (hno j2 h1' h43' d2 n2 m2 a2 c2 i2 hok')
    · exact ⟨rfl, rfl, rfl, rfl, rfl, rfl, rfl⟩
theorem dec_u {x o d n m a c i : Int} (hx : 0 ≤ x) (hx' : x < 4294967296) (hP : DecP x o d n m a c i) (w : World) : Calls Try.prog 18 #[.int .u32 x] w fun e w' => e = .returned (I7 o d n m a c i) ∧ Below w.heap.size w w' := by
  obtain ⟨o2, d2, n2, m2, a2, c2, i2, hc, hP2⟩ := dec_or x hx hx'
  obtain ⟨rfl, rfl, rfl, rfl, rfl, rfl, rfl⟩ := decP_uniq hP hP2
  exact hc w
theorem rins_u {x o d n m a c i : Int} (hx : 0 ≤ x) (hx' : x < 4294967296) (hP : DecP x o d n m a c i) (w : World) : Calls Try.prog 19 #[.int .u32 x] w fun e w' => e = .returned (I7 o d n m a c i) ∧ Below w.heap.size w w' := by
  refine (rins_c x w hx hx').mono ?_
  rintro e w' ⟨⟨o2, d2, n2, m2, a2, c2, i2, rfl, hP2⟩, hb⟩
  obtain ⟨rfl, rfl, rfl, rfl, rfl, rfl, rfl⟩ := decP_uniq hP hP2
  exact ⟨rfl, hb⟩
theorem right_c {x o d n m a c i : Int} (hx : 0 ≤ x) (hx' : x < 4294967296) (hP : DecP x o d n m a c i) (w : World) : Calls Try.prog 20 #[.int .u32 x] w fun e w' => e = .returned (.bool (!(o == 0))) ∧ Below w.heap.size w w' := by
  have H18 := Lib.hid (fun w => dec_u hx hx' hP w)
  have H46 := Lib.hid (fun w => undef_c x w hx hx')
  rcases hP with ⟨j, h1, h43, rfl, hok, hw⟩ | ⟨⟨rfl, rfl, rfl, rfl, rfl, rfl, rfl⟩, hno⟩
  · have ho : ((j : Int) == 0) = false := by simpa using (show ¬ (j : Int) = 0 by omega)
    rw [ho]
    clear hok hw
    generalize fd x 0 16 = u at H46
    go_enter Try.func20, Try.ntmps20
    go_wp2_with (first | (go_at_call 18; refine (H18.out _).mono ?_; rintro e w1 ⟨rfl, hb⟩; have HB1 := Lib.hid hb; clear hb) | (go_at_call 46; refine (H46.out _).mono ?_; rintro e w2 ⟨rfl, hb⟩; have HB2 := Lib.hid (HB1.out.trans (hb.mono HB1.out.size)); clear hb))
    go_ret
    exact ⟨rfl, HB2.out⟩
  · clear hno
    rw [show (!((0 : Int) == 0)) = false from rfl]
    generalize fd x 0 16 = u at H18 H46
    go_enter Try.func20, Try.ntmps20
    go_wp2_with (first | (go_at_call 18; refine (H18.out _).mono ?_; rintro e w1 ⟨rfl, hb⟩; have HB1 := Lib.hid hb; clear hb) | (go_at_call 46; refine (H46.out _).mono ?_; rintro e w2 ⟨rfl, hb⟩; have HB2 := Lib.hid (HB1.out.trans (hb.mono HB1.out.size)); clear hb))
    go_ret
    exact ⟨rfl, HB2.out⟩
theorem field_op (o d n m a c i : Int) (w : World) : (Instr.field 23 (I7 o d n m a c i) 0).run Try.prog w = .ok (.int .i64 o) w := by kernel_rfl
theorem rright_c {x o d n m a c i : Int} (hx : 0 ≤ x) (hx' : x < 4294967296) (hP : DecP x o d n m a c i) (w : World) : Calls Try.prog 21 #[.int .u32 x] w fun e w' => e = .returned (.bool (!(o == 0))) ∧ Below w.heap.size w w' := by
  have H19 := Lib.hid (fun w => rins_u hx hx' hP w)
  have hf := field_op o d n m a c i
  clear hP
  go_enter Try.func21, Try.ntmps21
  go_wp2_with (go_at_call 19; refine (H19.out _).mono ?_; rintro e w1 ⟨rfl, hb⟩; have HB1 := Lib.hid hb; clear hb)
  go_ret
  exact ⟨rfl, HB1.out⟩
theorem none_of (x : Int) (h : ((List.range 43).all fun j => j == 0 || (List.range 32).any fun i => outside (posL.getD j []) i && (x.toNat.testBit i != (baseL.getD j 0).toNat.testBit i)) = true) : DecP x 0 0 0 0 0 0 (fd x 0 16) := by
  refine .inr ⟨⟨rfl, rfl, rfl, rfl, rfl, rfl, rfl⟩, fun j h1 h43 d n m a c i hok hw => ?_⟩
  rw [List.all_eq_true] at h
  have hj := h j (by simpa using h43)
  simp only [Bool.or_eq_true, beq_iff_eq, List.any_eq_true, Bool.and_eq_true, bne_iff_ne, List.mem_range] at hj
  rcases hj with hj | ⟨i0, hi, hout, hne⟩
  · omega
  · exact hne (word_agree j h43 d n m a c i x hw i0 hi hout)
theorem dec_a : DecP 3596551104 27 0 30 0 0 0 0 := .inl ⟨27, by decide, by decide, rfl, by decide, by decide +kernel⟩
theorem dec_b : DecP 4294967295 0 0 0 0 0 0 65535 := none_of 4294967295 (by decide +kernel)
theorem dec_z : DecP 0 0 0 0 0 0 0 0 := none_of 0 (by decide +kernel)
theorem known17_c (w : World) : Calls Try.prog 17 #[] w fun e w' => e = .returned (.bool true) ∧ Below w.heap.size w w' := by
  have H1 := Lib.hid (fun w => dec_u (by decide) (by decide) dec_a w)
  have H2 := Lib.hid (fun w => dec_u (by decide) (by decide) dec_b w)
  have H3 := Lib.hid (fun w => right_c (by decide) (by decide) dec_z w)
  go_enter Try.func17, Try.ntmps17
  go_wp2_with fail
  refine (H1.out _).mono ?_
  rintro e w1 ⟨rfl, hb⟩
  have HB1 := Lib.hid hb
  clear hb
  go_wp2_with fail
  refine (H2.out _).mono ?_
  rintro e w2 ⟨rfl, hb⟩
  have HB2 := Lib.hid (HB1.out.trans (hb.mono HB1.out.size))
  clear hb
  go_wp2_with fail
  refine (H3.out _).mono ?_
  rintro e w3 ⟨rfl, hb⟩
  have HB3 := Lib.hid (HB2.out.trans (hb.mono HB2.out.size))
  clear hb
  go_wp2
  go_ret
  exact ⟨rfl, HB3.out⟩
theorem decwords_any (x : Int) (hr : (Lit.int .u32 x).wf = true) (w : World) : Calls Try.prog 6 #[.int .u32 x] w fun e w' => e = .returned (.bool true) ∧ Below w.heap.size w w' := by
  obtain ⟨hx, hx'⟩ : 0 ≤ x ∧ x < 4294967296 := by
    simp [Lit.wf, IntKind.min, IntKind.max, IntKind.signed, IntKind.bits] at hr
    omega
  obtain ⟨o, d, n, m, a, c, i, _, hP⟩ := dec_or x hx hx'
  have H18 := Lib.hid (fun w => dec_u hx hx' hP w)
  have H19 := Lib.hid (fun w => rins_u hx hx' hP w)
  have H20 := Lib.hid (fun w => right_c hx hx' hP w)
  have H21 := Lib.hid (fun w => rright_c hx hx' hP w)
  obtain ⟨b, hb⟩ : ∃ b : Bool, (!(o == 0)) = b := ⟨_, rfl⟩
  rw [hb] at H20 H21
  clear hP hb
  go_enter Try.func6, Try.ntmps6
  go_wp2_with fail
  refine (known17_c _).mono ?_
  rintro e w0 ⟨rfl, hb⟩
  have HB0 := Lib.hid hb
  clear hb
  go_wp2_with fail
  refine (H18.out _).mono ?_
  rintro e w1 ⟨rfl, hb⟩
  have HB1 := Lib.hid (HB0.out.trans (hb.mono HB0.out.size))
  clear hb
  go_wp2_with fail
  refine (H19.out _).mono ?_
  rintro e w2 ⟨rfl, hb⟩
  have HB2 := Lib.hid (HB1.out.trans (hb.mono HB1.out.size))
  clear hb
  go_wp2_with fail
  refine (H20.out _).mono ?_
  rintro e w3 ⟨rfl, hb⟩
  have HB3 := Lib.hid (HB2.out.trans (hb.mono HB2.out.size))
  clear hb
  go_wp2_with fail
  refine (H21.out _).mono ?_
  rintro e w4 ⟨rfl, hb⟩
  have HB4 := Lib.hid (HB3.out.trans (hb.mono HB3.out.size))
  clear hb
  go_wp2
  go_ret
  exact ⟨rfl, HB4.out⟩
end Go.Proofs.Ythgpolddbadfmaa
