import Derived.Test.YthgpolddbadfmaaVc
namespace Go.Proofs.Ythgpolddbadfmaa
open Go.ChangeShapes Go.WideShapes Go.ChangeAt Go.RowKit Go.Maps
set_option linter.unusedVariables false
theorem row_any {w w' : World} {base m size : Nat} {e : TypeId} {v : Value} {xs : List Value} (h : w.ownsRow base e size v m xs) (hb : Below w.heap.size w w') : w'.ownsRow base e size v m xs := by
  refine ⟨h.1, ?_⟩
  rcases h.2 with h1 | ⟨g, cap, cur, hv, hbg, hg, hr⟩
  · exact .inl h1
  · exact .inr ⟨g, cap, cur, hv, hbg, (hb.block g (Array.getElem?_eq_some_iff.1 hg).1).trans hg, hr⟩
/-- Where the rows have come after k of them. -/
def Far (F : Nat → In) (k : Nat) (err : Int) : Prop := (good F k ∧ err = 0) ∨ (1 ≤ k ∧ (F (k - 1)).e = 1 ∧ err = 1)
theorem words_g (A : Option Addr) (n cap : Nat) (F : Nat → In) (w : World) (n2 : n ≤ 400) (HS : SrcI w A n F) (hg : good F n) :
    Calls Try.prog 14 #[.slice A n cap] w fun r w' => r = .returned (.tuple #[.slice (some ⟨w.heap.size, 0, none⟩) n n, .int .i64 0]) ∧ w'.ownsRow w.heap.size 25 1 (.slice (some ⟨w.heap.size, 0, none⟩) n n) n (ws F n) ∧ Below w.heap.size w w' := by
  refine (words_c A n cap F w n2 (Lib.hid HS)).mono ?_
  rintro r w' ⟨⟨_, hr, ho⟩ | ⟨h, _⟩, hb⟩
  · exact ⟨hr, ho, hb⟩
  · exact absurd hg h
theorem words_n (A : Option Addr) (n cap : Nat) (F : Nat → In) (w : World) (n2 : n ≤ 400) (HS : SrcI w A n F) (hg : ¬ good F n) :
    Calls Try.prog 14 #[.slice A n cap] w fun r w' => r = .returned (.tuple #[.slice none 0 0, .int .i64 1]) ∧ Below w.heap.size w w' := by
  refine (words_c A n cap F w n2 (Lib.hid HS)).mono ?_
  rintro r w' ⟨⟨h, _⟩ | ⟨_, hr⟩, hb⟩
  · exact absurd h hg
  · exact ⟨hr, hb⟩
theorem bytes_g (A : Option Addr) (n cap : Nat) (F : Nat → In) (w : World) (n2 : n ≤ 400) (HS : SrcI w A n F) (hg : good F n) :
    Calls Try.prog 15 #[.slice A n cap] w fun r w' => ∃ g, r = .returned (.tuple #[.slice (some ⟨g, 0, none⟩) (4 * n) (4 * n), .int .i64 0]) ∧ w'.ownsRow w.heap.size 5 1 (.slice (some ⟨g, 0, none⟩) (4 * n) (4 * n)) (4 * n) (bs F n) ∧ Below w.heap.size w w' := by
  refine (bytes_c A n cap F w n2 (Lib.hid HS)).mono ?_
  rintro r w' ⟨⟨_, g, _, hr, ho⟩ | ⟨h, _⟩, hb⟩
  · exact ⟨g, hr, ho, hb⟩
  · exact absurd hg h
theorem bytes_n (A : Option Addr) (n cap : Nat) (F : Nat → In) (w : World) (n2 : n ≤ 400) (HS : SrcI w A n F) (hg : ¬ good F n) :
    Calls Try.prog 15 #[.slice A n cap] w fun r w' => r = .returned (.tuple #[.slice none 0 0, .int .i64 1]) ∧ Below w.heap.size w w' := by
  refine (bytes_c A n cap F w n2 (Lib.hid HS)).mono ?_
  rintro r w' ⟨⟨h, _⟩ | ⟨_, hr⟩, hb⟩
  · exact absurd h hg
  · exact ⟨hr, hb⟩
theorem bs_get (F : Nat → In) (n p j : Nat) (h : p < n) (hj : j < 4) : (bs F n)[4 * p + j]? = some (.int .u8 (b4 (F p).w j)) := by
  unfold bs
  rw [List.getElem?_map, List.getElem?_range (by omega)]
  show some (Value.int .u8 (b4 (F ((4 * p + j) / 4)).w ((4 * p + j) % 4))) = _
  rw [show (4 * p + j) / 4 = p from by omega, show (4 * p + j) % 4 = j from by omega]
theorem or_sum (a b : Int) (k : Nat) (ha : 0 ≤ a ∧ a < 2 ^ k) (hb : 0 ≤ b) (hm : b % 2 ^ k = 0) (ha' : a < 4294967296) (hb' : b < 4294967296) : bits .or .u32 a b = a + b := by
  rw [u32_or a b ha.1 ha' hb hb']
  obtain ⟨A, rfl⟩ := Int.eq_ofNat_of_zero_le ha.1
  obtain ⟨B, rfl⟩ := Int.eq_ofNat_of_zero_le hb
  have h1 : B % 2 ^ k = 0 := by
    have : ((B % 2 ^ k : Nat) : Int) = 0 := by simpa using hm
    omega
  have h2 : A < 2 ^ k := by
    have : ((A : Nat) : Int) < ((2 ^ k : Nat) : Int) := by simpa using ha.2
    omega
  rw [Int.toNat_natCast, Int.toNat_natCast, Nat.or_comm, nat_join k B A h1 h2]
  simp [Int.add_comm]
/-- Four bytes are their word. -/
theorem b4_join (v : Int) (h : 0 ≤ v ∧ v < 4294967296) : ∃ y0 y1 y2 y3 : Int, b4 v 0 = y0 ∧ b4 v 1 = y1 ∧ b4 v 2 = y2 ∧ b4 v 3 = y3 ∧ (0 ≤ y0 ∧ y0 < 256) ∧ (0 ≤ y1 ∧ y1 < 256) ∧ (0 ≤ y2 ∧ y2 < 256) ∧ (0 ≤ y3 ∧ y3 < 256) ∧
    bits .or .u32 (bits .or .u32 (bits .or .u32 y0 (y1 * 256)) (y2 * 65536)) (y3 * 16777216) = v := by
  obtain ⟨e0, e1, e2, e3⟩ := b4_vals v h
  refine ⟨_, _, _, _, e0, e1, e2, e3, by omega, by omega, by omega, by omega, ?_⟩
  rw [or_sum (v % 256) _ 8 (by simp only [show (2 : Int) ^ 8 = 256 from rfl]; omega) (by omega) (by simp only [show (2 : Int) ^ 8 = 256 from rfl]; omega) (by omega) (by omega)]
  rw [or_sum _ (v / 65536 % 256 * 65536) 16 (by simp only [show (2 : Int) ^ 16 = 65536 from rfl]; omega) (by omega) (by simp only [show (2 : Int) ^ 16 = 65536 from rfl]; omega) (by omega) (by omega)]
  rw [or_sum _ (v / 16777216 * 16777216) 24 (by simp only [show (2 : Int) ^ 24 = 16777216 from rfl]; omega) (by omega) (by simp only [show (2 : Int) ^ 24 = 16777216 from rfl]; omega) (by omega) (by omega)]
  omega
theorem size_up {a b : Nat} {w : World} (h : a ≤ b) (h2 : b ≤ w.heap.size) (o : Obj) : a ≤ (w.alloc o).heap.size := by rw [World.size_alloc]; omega
theorem below_row {w w' : World} {B n : Nat} {e : TypeId} {v : Value} {xs : List Value} (ho : w.ownsRow B e 1 v n xs) (hB : B ≤ w.heap.size) (h : w.grownBy w' v.ownBlock) : Below B w w' := by
  rcases ho.2 with ⟨rfl, _⟩ | ⟨g, cap, cur, rfl, hb, _⟩
  · exact ⟨h.os, h.tape, h.output, h.size, fun k hk => h.block k (by omega) (by simp [Value.ownBlock])⟩
  · exact ⟨h.os, h.tape, h.output, h.size, fun k hk => h.block k (by omega) (by simp [Value.ownBlock]; omega)⟩
set_option maxRecDepth 100000 in
set_option maxHeartbeats 4000000 in
theorem encrows_c (A : Option Addr) (n cap : Nat) (F : Nat → In) (w : World) (hcap : n ≤ maxLen) (HS : Hid (SrcI w A n F)) :
    Calls Try.prog 4 #[.slice A n cap] w fun r w' => r = .returned (.bool true) ∧ Below w.heap.size w w' := by
  obtain ⟨i0, hi, hz0, hz1, hz2⟩ := info_parts info25
  go_enter Try.func4, Try.ntmps4
  go_wp2_with fail
  refine (known_c _).mono ?_
  rintro e w0 ⟨rfl, hb⟩
  have HB0 := Lib.hid hb
  clear hb
  by_cases hbig : 400 < n
  · go_wp2
    go_ret
    exact ⟨rfl, HB0.out⟩
  have hd : decide (400 < (n : Int)) = false := decide_eq_false (by omega)
  go_wp2
  go_loopw [3, 4, 5, 6, 7] (fun v er ix x e1 wr => ∃ (k : Nat) (q : Int) (v' : Value), v = v' ∧ k ≤ n ∧ ix = .int .i64 k ∧ er = .int .i64 q ∧ Hid (Far F k q) ∧ Hid (wr.ownsRow w0.heap.size 25 1 v' k (ws F k)) ∧ Hid (Below w0.heap.size w0 wr)) (fun _ _ ix _ _ _ => n - (intOf ix).toNat)
  case atStart => exact ⟨0, 0, _, rfl, Nat.zero_le _, rfl, rfl, Lib.hid (.inl ⟨fun j h => by omega, rfl⟩), Lib.hid (World.ownsRow_nil _ _ _ _), Lib.hid (Below.refl _ _)⟩
  case round =>
    obtain ⟨k, q, v, rfl, hk, rfl, rfl, HF, HO, HB⟩ := hrel
    by_cases hlt : k < n
    · by_cases hq : q = 0
      · subst hq
        obtain ⟨b, off, rfl, hb, hc⟩ : ∃ b off, A = some ⟨b, off, none⟩ ∧ b < w.heap.size ∧ InsAt w b off n F := by
          rcases HS.out with h | h
          · omega
          · exact h
        obtain ⟨c0, c1, c2, c3, c4, c5, c6⟩ := (hc.past hb (HB0.out.trans (HB.out.mono HB0.out.size))) k hlt
        clear hc
        obtain ⟨x, hx⟩ : ∃ x, x = F k := ⟨_, rfl⟩
        rw [← hx] at c0 c1 c2 c3 c4 c5 c6
        have HX := Lib.hid hx
        clear hx
        have hm3 : k + 1 ≤ maxLen := by unfold maxLen; omega
        have hm4 : (k + 1) * 4 ≤ 140737488355328 := by omega
        go_wp2_with (first | (go_at_call 11; refine (In.rword x _).mono ?_; rintro r w3 ⟨rfl, hb3⟩; have HB3 := Lib.hid hb3; clear hb3; have hm5 : w0.heap.size ≤ (w3.alloc (.cells #[.int .u32 x.w] 25)).heap.size := size_up HB.out.size HB3.out.size _; have HO3 := row_any HO.out (HB3.out.alloc HB3.out.size (.cells #[.int .u32 x.w] 25))) | (at_builtin; refine wpList_append_own _ rfl _ _ 34 rfl w0.heap.size 25 i0 (.int .u32 0) 1 4 Try.underlying34 hi hz0 hz1 hz2 rfl (by decide) _ _ _ rfl HO3 ⟨w3.heap.size, 0, none⟩ 1 1 [.int .u32 x.w] rfl rfl (cells1 _ _ _) (one32 _) hm3 hm4 hm5 ?_))
        intro v4 w4 hown' hgrow _
        have HO4 : Hid (w4.ownsRow w0.heap.size 25 1 v4 (k + 1) (ws F (k + 1))) := Lib.hid (by rw [ws_succ, ← HX.out]; exact hown')
        have HB4 : Hid (Below w0.heap.size w0 w4) := Lib.hid ((HB.out.trans ((HB3.out.alloc HB3.out.size (.cells #[.int .u32 x.w] 25)).mono HB.out.size)).trans (below_row (row_any HO.out (HB3.out.alloc HB3.out.size (.cells #[.int .u32 x.w] 25))) (by have := HB.out.size; have := HB3.out.size; simp; omega) hgrow))
        have HF4 : Hid (Far F (k + 1) x.e) := Lib.hid (by
          rcases x.e_or with h | h
          · refine .inl ⟨fun j hj => ?_, h⟩
            rcases HF.out with ⟨hg, _⟩ | ⟨_, _, h0⟩
            · rcases Nat.lt_or_ge j k with h' | h'
              · exact hg j h'
              · rw [show j = k from by omega, ← HX.out]; exact h
            · cases h0
          · exact .inr ⟨by omega, by rw [Nat.add_sub_cancel, ← HX.out]; exact h, h⟩)
        clear hown' hgrow
        go_wp2
        go_roundw
        case rel => exact ⟨k + 1, _, _, rfl, by omega, by go_num, rfl, HF4, HO4, HB4⟩
        case measure => simp [intOf]; omega
      · have HNG : Hid (¬ good F n) := Lib.hid (by
          rcases HF.out with ⟨_, h⟩ | ⟨h1, h2, _⟩
          · exact absurd h hq
          · intro hg
            have := hg (k - 1) (by omega)
            rw [h2] at this
            cases this)
        obtain rfl : q = 1 := by
          rcases HF.out with ⟨_, h⟩ | ⟨_, _, h⟩
          · exact absurd h hq
          · exact h
        have HBa := Lib.hid (HB0.out.trans (HB.out.mono HB0.out.size))
        go_wp2_with (first | (go_at_call 14; refine (words_n A n cap F _ (by omega) (HS.out.past HBa.out) HNG.out).mono ?_; rintro r w3 ⟨rfl, hb3⟩; have HB3 := Lib.hid (HBa.out.trans (hb3.mono HBa.out.size)); clear hb3) | (go_at_call 15; refine (bytes_n A n cap F _ (by omega) (HS.out.past HB3.out) HNG.out).mono ?_; rintro r w4 ⟨rfl, hb4⟩; have HB4 := Lib.hid (HB3.out.trans (hb4.mono HB3.out.size)); clear hb4))
        go_ret
        exact ⟨rfl, HB4.out⟩
    · obtain rfl : n = k := by omega
      by_cases hq : q = 0
      · subst hq
        have HG : Hid (good F n) := Lib.hid (by
          rcases HF.out with ⟨h, _⟩ | ⟨_, _, h⟩
          · exact h
          · cases h)
        have HBa := Lib.hid (HB0.out.trans (HB.out.mono HB0.out.size))
        clear HF
        rcases HO.out.2 with ⟨hv, hn0⟩ | ⟨g, cp, cur, hv, hbg, _⟩
        · subst hv hn0
          go_wp2_with (first | (go_at_call 14; refine (words_g A 0 cap F _ (by omega) (HS.out.past HBa.out) HG.out).mono ?_; rintro r w3 ⟨rfl, ho3, hb3⟩; have HB3 := Lib.hid (HBa.out.trans (hb3.mono HBa.out.size)); clear hb3 ho3) | (go_at_call 15; refine (bytes_g A 0 cap F _ (by omega) (HS.out.past HB3.out) HG.out).mono ?_; rintro r w4 ⟨g4, rfl, ho4, hb4⟩; have HB4 := Lib.hid (HB3.out.trans (hb4.mono HB3.out.size)); clear hb4 ho4))
          go_loopw [12] (fun ix wl => ix = .int .i64 0 ∧ Hid (Below w.heap.size w wl)) (fun ix _ => 0)
          case atStart => exact ⟨rfl, HB4⟩
          case round =>
            obtain ⟨rfl, HBl⟩ := hrel
            go_wp2
            go_ret
            exact ⟨rfl, HBl.out⟩
        · subst hv
          have hgl := row_lt HO.out
          have HWn := Lib.hid (rows_of HO.out).2.2.1
          go_wp2_with (first | (go_at_call 14; refine (words_g A n cap F _ (by omega) (HS.out.past HBa.out) HG.out).mono ?_; rintro r w3 ⟨rfl, ho3, hb3⟩; have HR3 := Lib.hid hb3; have HO3 := Lib.hid ho3; have HB3 := Lib.hid (HBa.out.trans (hb3.mono HBa.out.size)); clear hb3 ho3) | (go_at_call 15; refine (bytes_g A n cap F _ (by omega) (HS.out.past HB3.out) HG.out).mono ?_; rintro r w4 ⟨g4, rfl, ho4, hb4⟩; have HR4 := Lib.hid hb4; have HO4 := Lib.hid ho4; have HB4 := Lib.hid (HB3.out.trans (hb4.mono HB3.out.size)); clear hb4 ho4))
          have HA : Hid (∀ (p : Nat) (u : Value), (ws F n)[p]? = some u → w4.cell? ⟨wr.heap.size, p, none⟩ = some u) := Lib.hid (fun p u hu => (HR4.out.cell (p := ⟨wr.heap.size, p, none⟩) (row_lt HO3.out)).trans ((rows_of HO3.out).2.2.1 p u hu))
          have HBy := Lib.hid (rows_of HO4.out).2.2.1
          have HWn4 : Hid (∀ (p : Nat) (u : Value), (ws F n)[p]? = some u → w4.cell? ⟨g, p, none⟩ = some u) := Lib.hid (fun p u hu => (HR4.out.cell (p := ⟨g, p, none⟩) (Nat.lt_of_lt_of_le hgl HR3.out.size)).trans ((HR3.out.cell (p := ⟨g, p, none⟩) hgl).trans (HWn.out p u hu)))
          have ha3 : wr.heap.size < w4.heap.size := Nat.lt_of_lt_of_le (row_lt HO3.out) HR4.out.size
          have ha4 := row_lt HO4.out
          have hgl4 : g < w4.heap.size := Nat.lt_of_lt_of_le hgl (Nat.le_trans HR3.out.size HR4.out.size)
          obtain ⟨g3, hg3⟩ : ∃ g3, g3 = wr.heap.size := ⟨_, rfl⟩
          rw [← hg3] at HA ha3
          rw [← hg3]
          clear hg3 HO3 HO4 HR3 HR4 HWn hgl HB HBa HO HB3
          go_loopw [12] (fun ix wl => ∃ p : Nat, p ≤ n ∧ ix = .int .i64 p ∧ Hid (Below w4.heap.size w4 wl)) (fun ix _ => n - (intOf ix).toNat)
          case atStart => exact ⟨0, Nat.zero_le _, rfl, Lib.hid (Below.refl _ _)⟩
          case round =>
            obtain ⟨p, hp, rfl, HBl⟩ := hrel
            by_cases hlp : p < n
            · have ca := (HBl.out.cell (p := ⟨g3, p, none⟩) ha3).trans (HA.out p _ (ws_get F n p hlp))
              have cw := (HBl.out.cell (p := ⟨g, p, none⟩) hgl4).trans (HWn4.out p _ (ws_get F n p hlp))
              have d0 := (HBl.out.cell (p := ⟨g4, 4 * p, none⟩) ha4).trans (HBy.out (4 * p) _ (bs_get F n p 0 hlp (by decide)))
              have d1 := (HBl.out.cell (p := ⟨g4, 4 * p + 1, none⟩) ha4).trans (HBy.out (4 * p + 1) _ (bs_get F n p 1 hlp (by decide)))
              have d2 := (HBl.out.cell (p := ⟨g4, 4 * p + 2, none⟩) ha4).trans (HBy.out (4 * p + 2) _ (bs_get F n p 2 hlp (by decide)))
              have d3 := (HBl.out.cell (p := ⟨g4, 4 * p + 3, none⟩) ha4).trans (HBy.out (4 * p + 3) _ (bs_get F n p 3 hlp (by decide)))
              obtain ⟨y0, y1, y2, y3, e0, e1, e2, e3, r0, r1, r2, r3, hj⟩ := b4_join (F p).w (F p).w_range
              rw [e0] at d0
              rw [e1] at d1
              rw [e2] at d2
              rw [e3] at d3
              obtain ⟨y, hy⟩ : ∃ y, y = (F p).w := ⟨_, rfl⟩
              rw [← hy] at ca cw hj
              clear e0 e1 e2 e3 hy
              have i0' : 4 * p + 3 < 4 * n := by omega
              go_wp2
              go_quiet (fail)
              go_wp2
              go_roundw
              case rel => exact ⟨p + 1, by omega, by go_num, Lib.hid (below_drewN HBl.out _)⟩
              case measure => simp [intOf]; omega
            · obtain rfl : n = p := by omega
              go_wp2
              go_ret
              exact ⟨rfl, HB4.out.trans (HBl.out.mono HB4.out.size)⟩
      · have HNG : Hid (¬ good F n) := Lib.hid (by
          rcases HF.out with ⟨_, h⟩ | ⟨h1, h2, _⟩
          · exact absurd h hq
          · intro hg
            have := hg (n - 1) (by omega)
            rw [h2] at this
            cases this)
        obtain rfl : q = 1 := by
          rcases HF.out with ⟨_, h⟩ | ⟨_, _, h⟩
          · exact absurd h hq
          · exact h
        have HBa := Lib.hid (HB0.out.trans (HB.out.mono HB0.out.size))
        go_wp2_with (first | (go_at_call 14; refine (words_n A n cap F _ (by omega) (HS.out.past HBa.out) HNG.out).mono ?_; rintro r w3 ⟨rfl, hb3⟩; have HB3 := Lib.hid (HBa.out.trans (hb3.mono HBa.out.size)); clear hb3) | (go_at_call 15; refine (bytes_n A n cap F _ (by omega) (HS.out.past HB3.out) HNG.out).mono ?_; rintro r w4 ⟨rfl, hb4⟩; have HB4 := Lib.hid (HB3.out.trans (hb4.mono HB3.out.size)); clear hb4))
        go_ret
        exact ⟨rfl, HB4.out⟩
end Go.Proofs.Ythgpolddbadfmaa
