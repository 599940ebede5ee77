import Derived.ChangeKeysEq
import Derived.Test.YtnbpgoacooddjaaLn
import Derived.Test.YtnbpgoacooddjaaLp
namespace Go.Proofs.Ytnbpgoacooddjaa.Lab
open Go.ChangeShapes Go.WideShapes Go.ChangeAt Go.RowKit Go.Maps
open Go.Proofs.Ytnbpgoacooddjaa.En
set_option linter.unusedVariables false
attribute [local go_sem] rowAt_drew rowAt_drewN
theorem part3 (xs : Array Value) (i : Nat) (v : Value) (h : xs[i]? = some v) (w : World) : (part 3 xs i).run Try.prog w = .ok v w := by
  unfold part
  have hu : (isAgg 3).run Try.prog w = .ok false w := by
    unfold isAgg
    rw [Sem.run_bind, run_underlying Try.underlying3 w]
    rfl
  rw [Sem.run_bind, hu]
  simp [h]
theorem part2 (xs : Array Value) (i : Nat) (v : Value) (h : xs[i]? = some v) (w : World) : (part 2 xs i).run Try.prog w = .ok v w := by
  unfold part
  have hu : (isAgg 2).run Try.prog w = .ok false w := by
    unfold isAgg
    rw [Sem.run_bind, run_underlying Try.underlying2 w]
    rfl
  rw [Sem.run_bind, hu]
  simp [h]
def arI (x : In) : Array Value := #[.int .i64 x.op, .int .i64 x.d, .int .i64 x.n, .int .i64 x.m, .int .i64 x.a, .int .i64 x.c, .int .i64 x.i]
theorem fields29 : (Try.prog.fieldsOf 29).toList.map (fun f => (f.type, f.offset)) = [(3, 0), (3, 1), (3, 2), (3, 3), (3, 4), (3, 5), (2, 6)] := by kernel_rfl
theorem eqF29 (x : In) (d : Nat) (w : World) : ∀ fs : List Field, fs.map (fun f => (f.type, f.offset)) = [(3, 0), (3, 1), (3, 2), (3, 3), (3, 4), (3, 5), (2, 6)] → (Op.eqFields (d + 2) (arI x) (arI x) fs).run Try.prog w = .ok true w := by
  intro fs h
  have hl : fs.length = 7 := by have := congrArg List.length h; simpa using this
  match fs, hl, h with
  | [f0, f1, f2, f3, f4, f5, f6], _, h =>
    simp only [List.map_cons, List.map_nil, List.cons.injEq, Prod.mk.injEq] at h
    obtain ⟨⟨t0, o0⟩, ⟨t1, o1⟩, ⟨t2, o2⟩, ⟨t3, o3⟩, ⟨t4, o4⟩, ⟨t5, o5⟩, ⟨t6, o6⟩, _⟩ := h
    have g0 := part3 (arI x) 0 (.int .i64 x.op) rfl w
    have g1 := part3 (arI x) 1 (.int .i64 x.d) rfl w
    have g2 := part3 (arI x) 2 (.int .i64 x.n) rfl w
    have g3 := part3 (arI x) 3 (.int .i64 x.m) rfl w
    have g4 := part3 (arI x) 4 (.int .i64 x.a) rfl w
    have g5 := part3 (arI x) 5 (.int .i64 x.c) rfl w
    have g6 := part2 (arI x) 6 (.int .i64 x.i) rfl w
    simp [Op.eqFields, t0, o0, t1, o1, t2, o2, t3, o3, t4, o4, t5, o5, t6, o6, Sem.run_bind, g0, g1, g2, g3, g4, g5, g6, run_equalIn_int w (d + 1) 3 .i64 _ _ _ Try.underlying3, run_equalIn_int w (d + 1) 2 .i64 _ _ _ Try.underlying2]
theorem neq29 (x : In) (w : World) : (binOp .neq 29 (.agg (arI x)) (.agg (arI x))).run Try.prog w = .ok (.bool false) w := by
  rw [run_neq_struct, run_equalIn_agg w 9999 29 (arI x) (arI x) (by kernel_rfl) (by kernel_rfl), eqF29 x 9997 w _ fields29, Result.andThen_ok]
  rfl
theorem LbM.mk {B : Nat} {w0 w : World} {p : Nat} {S : Lb} (h : LbB B w0 w p S) : LbM B w0 (w.alloc (.map #[] 0)) p S w.heap.size 0 (.map []) := by
  obtain ⟨FP, mb, v1, v3, bx, bY, bz, h1, h2, h3, h4⟩ := h
  have hb := (Below.refl w.heap.size w).alloc (Nat.le_refl _) (.map #[] 0)
  exact ⟨FP, mb, v1, v3, bx, bY, bz, h1.past hb, h2, Nat.le_trans h3 hb.size, h4.trans (hb.mono h3), fun hf => absurd (h1.fl _ hf) (Nat.lt_irrefl _), h3, World.ownsMap_made w _ _ _⟩
theorem LbM.own {B : Nat} {w0 w : World} {p : Nat} {S : Lb} {sb cnt : Nat} {D : DataW Unit} (h : LbM B w0 w p S sb cnt D) : w.ownsMap Try.prog 9 (plainElem (H := Unit) Try.prog 4) sb cnt D := by
  obtain ⟨FP, mb, v1, v3, bx, bY, bz, h1, h2, h3, h4, h5, h6, h7⟩ := h
  exact h7
theorem where_l {B : Nat} {w0 w : World} {p : Nat} {S : Lb} {s : ByteArray} {at0 : Int} {i : Nat} (h : LbB B w0 w p (S.lab s)) (hs : s.size ≤ maxLen) (hi : i ≤ 1000) (hn : S.n = i) (ha : S.at0 = at0) (hm : IsMap S.D) :
    Calls Try.prog 30 #[.pointer (some ⟨p, 0, none⟩), .string s] w fun e w' => e = .returned (.tuple #[.int .u64 (IntKind.u64.wrap (at0 + 4 * (i : Int))), .bool true]) ∧ w = w' := by
  have h1 : Maps.has (S.lab s).D (ky s) = true := has_put_same hm (show WideAt.IsKeyLit (ky s) from trivial) _
  have h2 : (S.lab s).D.atKey (ky s) (.lit (.int .i64 0)) = .lit (.int .i64 (i : Int)) := by
    rw [← hn]
    exact atKey_put_same hm (show WideAt.IsKeyLit (ky s) from trivial) _ _
  have := where_b h s hs h1 i (by omega) h2
  rw [show (S.lab s).at0 = at0 from ha] at this
  exact this
theorem words_bk {B : Nat} {w0 w : World} {p : Nat} {S : Lb} {at0 : Int} {F : Nat → In} {n : Nat} {D : DataW Unit} (h : LbB B w0 w p S) (hk : BkI at0 F n S D) :
    Calls Try.prog 22 #[.pointer (some ⟨p, 0, none⟩)] w fun e w' => ∃ g, e = .returned (.tuple #[.slice (some ⟨g, 0, none⟩) n n, .int .i64 0]) ∧ g < w'.heap.size ∧ (∀ j, j < n → w'.cell? ⟨g, j, none⟩ = some (.int .u32 (F j).w)) ∧ Below w.heap.size w w' := by
  have := words_b h hk.err (fun _ => 0) (fun _ => 0) (by rw [hk.jn]; decide) (fun k hk' => by rw [hk.jn] at hk'; omega) (by
    rw [hk.jn, hk.n]
    intro j hj
    show (S.F j).e = 0
    rw [hk.fe j hj]
    exact hk.ok j hj)
  rw [hk.jn, hk.n] at this
  refine this.mono fun e w' hh => ?_
  obtain ⟨g, h1, h2, h3, h4⟩ := hh
  refine ⟨g, h1, row_lt h3, fun j hj => ?_, h4⟩
  rw [← hk.fe j hj]
  exact (own_cells h3).1 j _ (by unfold ws; rw [List.getElem?_map, List.getElem?_range hj]; rfl)
theorem wp_narrow8 {P : Program} {c : Code} {K : Act → World → Prop} {Q : Exit → Act → World → Prop} {a : Act} {w : World} (h : c.wp P (Exit.then K (fun _ _ _ => False)) a w) : c.wp P (Exit.then K Q) a w :=
  wp_mono h (fun e a w he => by
    cases e
    case normal => exact he
    all_goals exact False.elim he)
theorem bk0 (at0 : Int) (F : Nat → In) : BkI at0 F 0 (Lb.new at0) (.map []) := ⟨rfl, rfl, rfl, rfl, fun j hj => absurd hj (Nat.not_lt_zero _), fun j hj => absurd hj (Nat.not_lt_zero _), Nat.le_refl _, ⟨_, rfl⟩, ⟨_, rfl⟩, fun s => rfl, fun s hs => by cases hs⟩
set_option maxRecDepth 100000 in
set_option maxHeartbeats 80000000 in
theorem back_walk (at0 : Int) (A1 A2 : Option Addr) (n1 c1 n2 c2 : Nat) (F : Nat → In) (nm : Nat → ByteArray) (w : World) (hm1 : n1 ≤ maxLen) (hm2 : n2 ≤ maxLen) (H1 : Hid (SrcI w A1 n1 F)) (H2 : Hid (SrcS w A2 n2 nm)) :
    Calls Try.prog 8 #[.int .u64 at0, .slice A1 n1 c1, .slice A2 n2 c2] w fun e w' => e = .returned (.bool true) ∧ Below w.heap.size w w' := by
  have HKN := Lib.hid (known19 w)
  have hmm := @run_makeMap Try.prog
  unfold maxLen at hm1 hm2
  go_enter Try.func8, Try.ntmps8
  by_cases hlen : n1 ≤ 500 ∧ n2 ≤ 50
  · go_upto_region 8 with (first | (go_at_call 19; refine HKN.out.mono ?_; rintro e w1 ⟨rfl, hb1⟩; have HB1 := Lib.hid hb1; clear hb1) | (go_at_call 20; refine (new_b at0 _).mono ?_; rintro e w2 ⟨rfl, hl2⟩; have HL2 := Lib.hid hl2; clear hl2))
    all_goals (try (exfalso; omega))
    have HM2 := Lib.hid (LbM.mk HL2.out)
    have hs2 := HL2.out.sz
    obtain ⟨B, hB⟩ : ∃ B, w1.heap.size = B := ⟨_, rfl⟩
    rw [hB] at HM2 hs2
    have HB1' := Lib.hid HB1.out
    have HS1 := Lib.hid (H1.out.past HB1.out)
    have HS2 := Lib.hid (H2.out.past HB1.out)
    try rw [hB]
    obtain ⟨p, hp⟩ : ∃ p, B + 1 = p := ⟨_, rfl⟩
    rw [hp] at HM2
    try rw [hp]
    obtain ⟨sb, hsb⟩ : ∃ sb, w2.heap.size = sb := ⟨_, rfl⟩
    rw [hsb] at HM2
    go_upto_region 9 with (fail)
    try rw [hsb]
    obtain ⟨W3, hW3⟩ : ∃ W3, w2.alloc (.map #[] 0) = W3 := ⟨_, rfl⟩
    rw [hW3] at HM2
    try rw [hW3]
    clear hW3 HL2 HKN hmm hp hsb hs2
    go_wp2
    go_loopw [9] (fun s9 W => ∃ (i : Nat) (S : Lb) (D : DataW Unit) (c : Nat), i ≤ n1 ∧ s9 = .int .i64 i ∧ c ≤ i ∧ Hid (LbM B w1 W p S sb c D) ∧ Hid (BkI at0 F i S D)) (fun s9 _ => n1 - (intOf s9).toNat)
    case atStart => exact ⟨0, Lb.new at0, .map [], 0, Nat.zero_le _, rfl, Nat.le_refl _, HM2, Lib.hid (bk0 at0 F)⟩
    case round =>
      obtain ⟨i, S, D, c, hi, rfl, hc, HM, HK⟩ := hrel
      have hbw : Below w.heap.size w wr := HB1.out.trans (HM.out.b.bl.mono (by have := HB1.out.size; omega))
      have HBW := Lib.hid hbw
      clear hbw
      by_cases hlt : i < n1
      · obtain ⟨b, off, rfl, hb, hcI⟩ : ∃ b off, A1 = some ⟨b, off, none⟩ ∧ b < w1.heap.size ∧ InsAt w1 b off n1 F := by
          rcases HS1.out with h | h
          · omega
          · exact h
        have HINS : Hid (∀ V, Below B w1 V → InsAt V b off n1 F) := Lib.hid (fun V hV => hcI.past hb (by rw [hB]; exact hV))
        obtain ⟨x0, x1, x2, x3, x4, x5, x6⟩ := HINS.out _ HM.out.b.bl i hlt
        clear hcI
        obtain ⟨x, hx⟩ : ∃ x, F i = x := ⟨_, rfl⟩
        rw [hx] at x0 x1 x2 x3 x4 x5 x6
        have HXF := Lib.hid hx
        have hck := x.check wr
        rcases x.e_or with he | he
        · rw [he] at hck
          have HCK := Lib.hid hck
          clear hck
          go_upto_region 14 with (go_at_call 31; refine HCK.out.mono ?_; rintro e w3 ⟨rfl, hb3⟩; have HM3 := Lib.hid (HM.out.past hb3); clear hb3 HCK)
          clear x0 x1 x2 x3 x4 x5 x6
          rw [← hx] at he
          by_cases hi2 : i < n2
          · obtain ⟨bn, ofn, rfl, hbn, hcn⟩ : ∃ b off, A2 = some ⟨b, off, none⟩ ∧ b < w1.heap.size ∧ ∀ k, k < n2 → w1.cell? ⟨b, off + k, none⟩ = some (.string (nm k)) ∧ (nm k).size ≤ maxLen := by
              rcases HS2.out with h | h
              · omega
              · exact h
            have HNM : Hid (∀ V, Below B w1 V → V.cell? ⟨bn, ofn + i, none⟩ = some (.string (nm i))) := Lib.hid (fun V hV => (hV.cell (p := ⟨bn, ofn + i, none⟩) (show bn < B by omega)).trans (hcn i hi2).1)
            have hs := (hcn i hi2).2
            obtain ⟨s, hsn⟩ : ∃ s, nm i = s := ⟨_, rfl⟩
            rw [hsn] at hs HNM
            clear hcn hsn
            have hlk := look_b HM3.out.own hs (HK.out.tr s)
            have cn3 := HNM.out _ HM3.out.b.bl
            cases hh : Maps.has D (ky s)
            · rw [hh] at hlk
              have hno : Maps.has S.D (ky s) = false := by rw [HK.out.rel s, hh]
              have hkey := ky_of hs
              go_upto_region 20 with (first | (at_mapUpdate; refine wpList_mapUpdate_own _ rfl _ _ _ 65 rfl 9 4 law9 Try.underlying65 _ sb c _ rfl HM3.out.own (by unfold maxLen; omega) _ _ _ rfl rfl hkey _ [] (plainElem_bool Try.underlying4 true) ?_; intro w4 ho4 hg4; have HM4 := Lib.hid (HM3.out.upd ho4 hg4); have cn4 := HNM.out _ HM4.out.b.bl; clear ho4 hg4) | (go_at_call 26; refine (label_m HM4.out s hs (by have := HK.out.cn; omega) hno).mono ?_; rintro e w5 ⟨rfl, hm5⟩; have HM5 := Lib.hid hm5; have cn5 := HNM.out _ HM5.out.b.bl; clear hm5) | (go_at_call 30; refine (where_l HM5.out.b hs (by omega) HK.out.n HK.out.at0 HK.out.is).mono ?_; rintro e w6 ⟨rfl, rfl⟩))
              have HPUT := Lib.hid (put1_m HM5.out (F i) (by have := HK.out.n; show S.n < _; omega) he)
              obtain ⟨z0, z1, z2, z3, z4, z5, z6⟩ := HINS.out _ HM5.out.b.bl i hlt
              rw [HXF.out] at HPUT
              rw [HXF.out] at z0 z1 z2 z3 z4 z5 z6
              go_wp2_with (go_at_call 29; refine HPUT.out.mono ?_; rintro e w9 ⟨rfl, hm9⟩; have HM9 := Lib.hid hm9; clear hm9)
              go_roundw
              case rel => exact ⟨i + 1, _, _, _, by omega, by go_num, by omega, HM9, Lib.hid (by rw [← HXF.out]; exact (HK.out.seen s).put (by have := HK.out.cn; show S.cnt + 1 ≤ _; omega) he)⟩
              case measure => simp [intOf]; omega
            · rw [hh] at hlk
              go_upto_region 20 with (fail)
              have HPUT := Lib.hid (put1_m HM3.out (F i) (by have := HK.out.n; omega) he)
              obtain ⟨z0, z1, z2, z3, z4, z5, z6⟩ := HINS.out _ HM3.out.b.bl i hlt
              rw [HXF.out] at HPUT
              rw [HXF.out] at z0 z1 z2 z3 z4 z5 z6
              go_wp2_with (go_at_call 29; refine HPUT.out.mono ?_; rintro e w9 ⟨rfl, hm9⟩; have HM9 := Lib.hid hm9; clear hm9)
              go_roundw
              case rel => exact ⟨i + 1, _, _, _, by omega, by go_num, by omega, HM9, Lib.hid (by rw [← HXF.out]; exact HK.out.put (c := S.cnt) (by have := HK.out.cn; omega) he)⟩
              case measure => simp [intOf]; omega
          · go_upto_region 20 with (fail)
            have HPUT := Lib.hid (put1_m HM3.out (F i) (by have := HK.out.n; omega) he)
            obtain ⟨z0, z1, z2, z3, z4, z5, z6⟩ := HINS.out _ HM3.out.b.bl i hlt
            rw [HXF.out] at HPUT
            rw [HXF.out] at z0 z1 z2 z3 z4 z5 z6
            go_wp2_with (go_at_call 29; refine HPUT.out.mono ?_; rintro e w9 ⟨rfl, hm9⟩; have HM9 := Lib.hid hm9; clear hm9)
            go_roundw
            case rel => exact ⟨i + 1, _, _, _, by omega, by go_num, by omega, HM9, Lib.hid (by rw [← HXF.out]; exact HK.out.put (c := S.cnt) (by have := HK.out.cn; omega) he)⟩
            case measure => simp [intOf]; omega
        · rw [he] at hck
          have HCK := Lib.hid hck
          clear hck
          go_wp2_with (go_at_call 31; refine HCK.out.mono ?_; rintro e w3 ⟨rfl, hb3⟩; have HB3 := Lib.hid (HBW.out.trans (hb3.mono HBW.out.size)); clear hb3)
          go_ret
          exact ⟨rfl, HB3.out⟩
      · obtain rfl : i = n1 := by omega
        have hlen2 := len_b (HM.out.b)
        rw [HK.out.n] at hlen2
        have HLEN := Lib.hid hlen2
        clear hlen2
        have HWD := Lib.hid (words_bk HM.out.b HK.out)
        go_upto_region 22 with (go_at_call 22; refine HWD.out.mono ?_; rintro e w4 ⟨g, rfl, hgl, hcs, hb4⟩; have HB4 := Lib.hid (HM.out.b.past hb4); have HGL := Lib.hid hgl; have HCS := Lib.hid hcs; clear hgl hcs hb4)
        have hl4 := len_b HB4.out
        rw [HK.out.n] at hl4
        have hh4 := here_b HB4.out
        rw [HK.out.n, HK.out.at0] at hh4
        unfold placeS at hh4
        have HL4 := Lib.hid hl4
        have HH4 := Lib.hid hh4
        clear hl4 hh4
        go_wp2_with (first | (go_at_call 32; refine HL4.out.mono ?_; rintro e w5 ⟨rfl, rfl⟩) | (go_at_call 27; refine HH4.out.mono ?_; rintro e w5 ⟨rfl, rfl⟩))
        obtain ⟨m, hmN⟩ : ∃ m, m = i := ⟨_, rfl⟩
        have hbw4 : Below w.heap.size w w4 := HB1.out.trans (HB4.out.bl.mono (by have := HB1.out.size; omega))
        have HBW4 := Lib.hid hbw4
        have hsz4 := HB4.out.sz
        have HINS4 : Hid (∀ V, Below w4.heap.size w4 V → SrcI V A1 i F) := Lib.hid (fun V hV => (HS1.out.past ((HB4.out.bl).mono (Nat.le_of_eq hB))).past hV)
        go_loopw [14] (fun s14 W => ∃ j : Nat, j ≤ i ∧ s14 = .int .i64 j ∧ Hid (Below w4.heap.size w4 W)) (fun s14 _ => i - (intOf s14).toNat)
        case atStart => exact ⟨0, Nat.zero_le _, rfl, Lib.hid (Below.refl _ _)⟩
        case round =>
          obtain ⟨j, hj, rfl, HBj⟩ := hrel
          by_cases hlj : j < i
          · obtain ⟨b, off, rfl, hb, hcI⟩ : ∃ b off, A1 = some ⟨b, off, none⟩ ∧ b < wr.heap.size ∧ InsAt wr b off i F := by
              rcases HINS4.out wr HBj.out with h | h
              · omega
              · exact h
            obtain ⟨x0, x1, x2, x3, x4, x5, x6⟩ := hcI j hlj
            have cw : wr.cell? ⟨g, j, none⟩ = some (.int .u32 (F j).w) := (HBj.out.cell (p := ⟨g, j, none⟩) HGL.out).trans (HCS.out j hlj)
            have hej := HK.out.ok j hlj
            obtain ⟨x, hx⟩ : ∃ x, F j = x := ⟨_, rfl⟩
            rw [hx] at x0 x1 x2 x3 x4 x5 x6 cw hej
            obtain ⟨xw, hxw⟩ : ∃ xw, x.w = xw := ⟨_, rfl⟩
            have hdec := fun V => dec_in x hej V
            rw [hxw] at cw hdec
            have HDEC : Hid (∀ V, Calls Try.prog 24 #[.int .u32 xw] V fun e w' => e = .returned (.agg #[.int .i64 x.op, .int .i64 x.d, .int .i64 x.n, .int .i64 x.m, .int .i64 x.a, .int .i64 x.c, .int .i64 x.i]) ∧ Below V.heap.size V w') := Lib.hid hdec
            have hneq : ∀ V : World, (binOp .neq 29 (.agg #[.int .i64 x.op, .int .i64 x.d, .int .i64 x.n, .int .i64 x.m, .int .i64 x.a, .int .i64 x.c, .int .i64 x.i]) (.agg #[.int .i64 x.op, .int .i64 x.d, .int .i64 x.n, .int .i64 x.m, .int .i64 x.a, .int .i64 x.c, .int .i64 x.i])).run Try.prog V = .ok (.bool false) V := fun V => neq29 x V
            have hgw : g < wr.heap.size := Nat.lt_of_lt_of_le HGL.out HBj.out.size
            clear hcI hdec hej hx hxw
            go_upto_region 27 with (fail)
            refine wp_narrow8 ?_
            have d0 : wr.drew.cell? ⟨b, off + j * 7, none⟩ = some (.int .i64 x.op) := x0
            have d1 : wr.drew.cell? ⟨b, off + j * 7 + 1, none⟩ = some (.int .i64 x.d) := x1
            have d2 : wr.drew.cell? ⟨b, off + j * 7 + 2, none⟩ = some (.int .i64 x.n) := x2
            have d3 : wr.drew.cell? ⟨b, off + j * 7 + 3, none⟩ = some (.int .i64 x.m) := x3
            have d4 : wr.drew.cell? ⟨b, off + j * 7 + 4, none⟩ = some (.int .i64 x.a) := x4
            have d5 : wr.drew.cell? ⟨b, off + j * 7 + 5, none⟩ = some (.int .i64 x.c) := x5
            have d6 : wr.drew.cell? ⟨b, off + j * 7 + 6, none⟩ = some (.int .i64 x.i) := x6
            have dw : wr.drew.cell? ⟨g, j, none⟩ = some (.int .u32 xw) := cw
            clear x0 x1 x2 x3 x4 x5 x6 cw
            refine wp_region_held_drew (S := fun w' => w'.cell? ⟨b, off + j * 7, none⟩ = some (.int .i64 x.op) ∧ w'.cell? ⟨b, off + j * 7 + 1, none⟩ = some (.int .i64 x.d) ∧ w'.cell? ⟨b, off + j * 7 + 2, none⟩ = some (.int .i64 x.n) ∧ w'.cell? ⟨b, off + j * 7 + 3, none⟩ = some (.int .i64 x.m) ∧ w'.cell? ⟨b, off + j * 7 + 4, none⟩ = some (.int .i64 x.a) ∧ w'.cell? ⟨b, off + j * 7 + 5, none⟩ = some (.int .i64 x.c) ∧ w'.cell? ⟨b, off + j * 7 + 6, none⟩ = some (.int .i64 x.i) ∧ w'.cell? ⟨g, j, none⟩ = some (.int .u32 xw)) (by kernel_rfl) ⟨d0, d1, d2, d3, d4, d5, d6, dw⟩ (fun hHeld => ?_)
            refine wpAnyH_take (i := 0) (oi := { dst := some 131, op := Go.Op.move (Go.Operand.tmp 12), type := 46, pos := "more.go:42", after := #[], guard := none }) (v := ?_) rfl (by kernel_rfl) (by kernel_rfl) (by kernel_rfl) (fun _ _ _ h => h) (Or.inl ⟨by rfl, ?_⟩) (by assumption) ?_
            rotate_left
            · (intro w0 hSw; (try dsimp only at hSw); go_split_ands; go_simp; with_reducible rfl)
            try simp only [Act.put, List.setIfInBounds_toArray, List.set_cons_zero, List.set_cons_succ]
            refine wpAnyH_take (i := 1) (oi := { dst := some 132, op := Go.Op.move (Go.Operand.tmp 14), type := 3, pos := "more.go:42", after := #[], guard := none }) (v := ?_) rfl (by kernel_rfl) (by kernel_rfl) (by kernel_rfl) (fun _ _ _ h => h) (Or.inl ⟨by rfl, ?_⟩) (by assumption) ?_
            rotate_left
            · (intro w0 hSw; (try dsimp only at hSw); go_split_ands; go_simp; with_reducible rfl)
            try simp only [Act.put, List.setIfInBounds_toArray, List.set_cons_zero, List.set_cons_succ]
            refine wpAnyH_take (i := 2) (oi := { dst := some 133, op := Go.Op.indexAddr 46 (Go.Operand.tmp 131) (Go.Operand.tmp 132), type := 0, pos := "more.go:42", after := #[{ on := 0, ground := Go.Ground.data }, { on := 1, ground := Go.Ground.data }], guard := none }) (v := ?_) rfl (by kernel_rfl) (by kernel_rfl) (by kernel_rfl) (fun _ _ _ h => h) (Or.inl ⟨by rfl, ?_⟩) (by assumption) ?_
            rotate_left
            · (intro w0 hSw; (try dsimp only at hSw); go_split_ands; go_simp; with_reducible rfl)
            try simp only [Act.put, List.setIfInBounds_toArray, List.set_cons_zero, List.set_cons_succ]
            refine wpAnyH_take (i := 3) (oi := { dst := some 134, op := Go.Op.load 54 (Go.Operand.tmp 133), type := 54, pos := "more.go:42", after := #[{ on := 2, ground := Go.Ground.data }], guard := none }) (v := ?_) rfl (by kernel_rfl) (by kernel_rfl) (by kernel_rfl) (fun _ _ _ h => h) (Or.inl ⟨by rfl, ?_⟩) (by assumption) ?_
            rotate_left
            · (intro w0 hSw; (try dsimp only at hSw); go_split_ands; go_simp; with_reducible rfl)
            try simp only [Act.put, List.setIfInBounds_toArray, List.set_cons_zero, List.set_cons_succ]
            refine wpAnyH_take (i := 5) (oi := { dst := some 136, op := Go.Op.move (Go.Operand.tmp 1), type := 63, pos := "more.go:42", after := #[], guard := none }) (v := ?_) rfl (by kernel_rfl) (by kernel_rfl) (by kernel_rfl) (fun _ _ _ h => h) (Or.inl ⟨by rfl, ?_⟩) (by assumption) ?_
            rotate_left
            · (intro w0 hSw; (try dsimp only at hSw); go_split_ands; go_simp; with_reducible rfl)
            try simp only [Act.put, List.setIfInBounds_toArray, List.set_cons_zero, List.set_cons_succ]
            refine wpAnyH_take (i := 6) (oi := { dst := some 137, op := Go.Op.move (Go.Operand.tmp 14), type := 3, pos := "more.go:42", after := #[], guard := none }) (v := ?_) rfl (by kernel_rfl) (by kernel_rfl) (by kernel_rfl) (fun _ _ _ h => h) (Or.inl ⟨by rfl, ?_⟩) (by assumption) ?_
            rotate_left
            · (intro w0 hSw; (try dsimp only at hSw); go_split_ands; go_simp; with_reducible rfl)
            try simp only [Act.put, List.setIfInBounds_toArray, List.set_cons_zero, List.set_cons_succ]
            refine wpAnyH_take (i := 7) (oi := { dst := some 138, op := Go.Op.indexAddr 63 (Go.Operand.tmp 136) (Go.Operand.tmp 137), type := 0, pos := "more.go:42", after := #[{ on := 5, ground := Go.Ground.data }, { on := 6, ground := Go.Ground.data }], guard := none }) (v := ?_) rfl (by kernel_rfl) (by kernel_rfl) (by kernel_rfl) (fun _ _ _ h => h) (Or.inl ⟨by rfl, ?_⟩) (by assumption) ?_
            rotate_left
            · (intro w0 hSw; (try dsimp only at hSw); go_split_ands; go_simp; with_reducible rfl)
            try simp only [Act.put, List.setIfInBounds_toArray, List.set_cons_zero, List.set_cons_succ]
            refine wpAnyH_take (i := 8) (oi := { dst := some 139, op := Go.Op.load 29 (Go.Operand.tmp 138), type := 29, pos := "more.go:42", after := #[{ on := 7, ground := Go.Ground.data }], guard := none }) (v := ?_) rfl (by kernel_rfl) (by kernel_rfl) (by kernel_rfl) (fun _ _ _ h => h) (Or.inl ⟨by rfl, ?_⟩) (by assumption) ?_
            rotate_left
            · (intro w0 hSw; (try dsimp only at hSw); go_split_ands; go_simp; with_reducible rfl)
            try simp only [Act.put, List.setIfInBounds_toArray, List.set_cons_zero, List.set_cons_succ]
            refine wpAnyH_ready (rs := [4]) (by kernel_rfl) (by simp) ?_
            refine AllReadyH.cons (o := { dst := some 135, op := Go.Op.call { callee := Go.Callee.value (Go.Operand.func 24), args := #[Go.Operand.tmp 134], argTypes := #[54] }, type := 29, pos := "more.go:42", after := #[{ on := 3, ground := Go.Ground.data }], guard := none }) rfl (fun K hK => ?_) AllReadyH.nil
            go_simp
            go_at_call 24
            refine (HDEC.out _).mono ?_
            rintro e u1 ⟨rfl, hb1⟩
            have hbu : Below wr.heap.size wr u1 := (Below.refl wr.heap.size wr).drew.trans (show Below wr.heap.size wr.drew u1 from hb1)
            have gb : ∀ q, u1.cell? ⟨b, q, none⟩ = wr.drew.cell? ⟨b, q, none⟩ := fun q => hb1.cell (p := ⟨b, q, none⟩) hb
            have gg : u1.cell? ⟨g, j, none⟩ = some (.int .u32 xw) := (hb1.cell (p := ⟨g, j, none⟩) hgw).trans dw
            refine hK.out _ _ ⟨(gb _).trans d0, (gb _).trans d1, (gb _).trans d2, (gb _).trans d3, (gb _).trans d4, (gb _).trans d5, (gb _).trans d6, gg⟩ (fun hHeld => ?_)
            clear hK K
            try simp only [Act.put, List.setIfInBounds_toArray, List.set_cons_zero, List.set_cons_succ]
            refine wpAnyH_take (i := 9) (oi := { dst := some 140, op := Go.Op.binOp Go.BinOp.neq 29 (Go.Operand.tmp 135) (Go.Operand.tmp 139) 29, type := 4, pos := "more.go:42", after := #[{ on := 4, ground := Go.Ground.data }, { on := 8, ground := Go.Ground.data }], guard := none }) (v := ?_) rfl (by kernel_rfl) (by kernel_rfl) (by kernel_rfl) (fun _ _ _ h => h) (Or.inl ⟨by rfl, ?_⟩) (by assumption) ?_
            rotate_left
            · (intro w0 hSw; (try dsimp only at hSw); go_split_ands; go_simp; with_reducible rfl)
            try simp only [Act.put, List.setIfInBounds_toArray, List.set_cons_zero, List.set_cons_succ]
            refine wpAnyH_done (by kernel_rfl) ?_ _
            clear hHeld
            go_wp2
            exact ⟨⟨j + 1, by omega, by go_num, Lib.hid (HBj.out.trans (hbu.mono HBj.out.size))⟩, by simp [intOf]; omega⟩
          · obtain rfl : j = i := by omega
            go_wp2
            go_ret
            exact ⟨rfl, HBW4.out.trans (HBj.out.mono HBW4.out.size)⟩
  · go_wp2_with (go_at_call 19; refine HKN.out.mono ?_; rintro e w1 ⟨rfl, hb1⟩; have HB1 := Lib.hid hb1; clear hb1)
    all_goals (try (exfalso; omega))
    all_goals go_ret
    all_goals exact ⟨rfl, HB1.out⟩
end Go.Proofs.Ytnbpgoacooddjaa.Lab
