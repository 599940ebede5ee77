import Derived.Test.YtnbpgoacooddjaaPe
namespace Go.Proofs.Ytnbpgoacooddjaa.Lab
open Go.ChangeShapes Go.WideShapes Go.ChangeAt Go.RowKit Go.Maps Go.Deep
open Go.Proofs.Ytnbpgoacooddjaa.En
set_option linter.unusedVariables false
attribute [local go_sem] rowAt_drew rowAt_drewN
theorem prt_mod (v : Int) (k : Nat) (v1 : 0 ≤ v) (v2 : v < 18446744073709551616) : prt v k = v / 2 ^ (16 * k) % 65536 := by
  unfold prt
  have h1 : 0 ≤ v / 2 ^ (16 * k) := Int.ediv_nonneg v1 (Int.le_of_lt (Int.pow_pos (by decide)))
  have h2 : v / 2 ^ (16 * k) ≤ v := Int.ediv_le_self _ v1
  generalize v / 2 ^ (16 * k) = y at h1 h2 ⊢
  have := En.and_mask y 16 (by decide) h1 (by omega)
  rw [show (2 : Int) ^ 16 - 1 = 65535 from rfl, show (2 : Int) ^ 16 = 65536 from rfl] at this
  rw [this]
  unfold wrap64
  omega
theorem prt_rng (v : Int) (k : Nat) (v1 : 0 ≤ v) (v2 : v < 18446744073709551616) : 0 ≤ prt v k ∧ prt v k ≤ 65535 := by
  rw [prt_mod v k v1 v2]
  omega
theorem ci_ok (o d : Int) (p : Nat) (q : Int) (ho : o = 2 ∨ o = 3) (d1 : 0 ≤ d) (d2 : d ≤ 30) (hp : p < 4) (q1 : 0 ≤ q) (q2 : q ≤ 65535) : (⟨o, d, 0, p, 0, 0, q⟩ : In).e = 0 := by
  have hk : okN o.toNat d 0 p 0 0 q = true := by
    rcases ho with rfl | rfl
    · show Fr.ok_2 d 0 p 0 0 q = true
      simp [Fr.ok_2, Fr.wi]; omega
    · show Fr.ok_3 d 0 p 0 0 q = true
      simp [Fr.ok_3, Fr.wi]; omega
  have h0 : (⟨o, d, 0, p, 0, 0, q⟩ : In).ok = true := by
    show (decide (0 ≤ o ∧ o ≤ 42) && okN o.toNat d 0 p 0 0 q) = true
    rw [hk]; simp; omega
  unfold In.e
  rw [if_pos h0]
theorem cI_ok (d v : Int) (k : Nat) (hk : k < 4) (d1 : 0 ≤ d) (d2 : d ≤ 30) (v1 : 0 ≤ v) (v2 : v < 18446744073709551616) : (cI d v k).e = 0 :=
  ci_ok (opC v k) d k (prt v k) (opC_or v k) d1 d2 hk (prt_rng v k v1 v2).1 (prt_rng v k v1 v2).2
theorem c0_ok (d : Int) (d1 : 0 ≤ d) (d2 : d ≤ 30) : (⟨2, d, 0, 0, 0, 0, 0⟩ : In).e = 0 := ci_ok 2 d 0 0 (.inl rfl) d1 d2 (by decide) (by decide) (by decide)
/-- What Const lays from the beginning. -/
abbrev tC (d v : Int) (k : Nat) : Lb := stC (Lb.new 0) d v k
def tZ (d v : Int) : Lb := if (tC d v 4).n = 0 then (tC d v 4).app (fun _ => ⟨2, d, 0, 0, 0, 0, 0⟩) 1 else tC d v 4
theorem tC_z (d v : Int) (k : Nat) (h : prt v k = 0) : tC d v (k + 1) = tC d v k := by
  unfold tC
  rw [stC, if_pos h]
theorem tC_s (d v : Int) (k : Nat) (h : ¬ prt v k = 0) : tC d v (k + 1) = (tC d v k).app (fun _ => cI d v k) 1 := by
  unfold tC
  rw [stC, if_neg h]
theorem tC_n (d v : Int) (k : Nat) : (tC d v k).n ≤ k := by
  have := stC_n (Lb.new 0) d v k
  have h0 : (Lb.new 0).n = 0 := rfl
  show (stC (Lb.new 0) d v k).n ≤ k
  omega
theorem opC_n (d v : Int) : ∀ k, opC v k = if (tC d v k).n = 0 then 2 else 3
  | 0 => rfl
  | k + 1 => by
    by_cases h : prt v k = 0
    · rw [tC_z d v k h, ← opC_n d v k]
      show (if prt v k = 0 then opC v k else 3) = _
      rw [if_pos h]
    · rw [tC_s d v k h]
      show (if prt v k = 0 then opC v k else 3) = if (tC d v k).n + 1 = 0 then 2 else 3
      rw [if_neg h, if_neg (by omega)]
theorem tC_zero (d v : Int) : ∀ k, (tC d v k).n = 0 → ∀ j, j < k → prt v j = 0
  | 0, _, j, hj => absurd hj (Nat.not_lt_zero _)
  | k + 1, h, j, hj => by
    by_cases hp : prt v k = 0
    · rw [tC_z d v k hp] at h
      rcases Nat.lt_or_ge j k with h1 | h1
      · exact tC_zero d v k h j h1
      · rw [show j = k by omega]; exact hp
    · rw [tC_s d v k hp] at h
      exact absurd h (Nat.succ_ne_zero _)
theorem tC_zero' (d v : Int) : ∀ k, (∀ j, j < k → prt v j = 0) → (tC d v k).n = 0
  | 0, _ => rfl
  | k + 1, h => by
    rw [tC_z d v k (h k (by omega))]
    exact tC_zero' d v k fun j hj => h j (by omega)
theorem n0_iff (d v : Int) (v1 : 0 ≤ v) (v2 : v < 18446744073709551616) : (tC d v 4).n = 0 ↔ v = 0 := by
  constructor
  · intro h
    have h0 := tC_zero d v 4 h 0 (by decide)
    have h1 := tC_zero d v 4 h 1 (by decide)
    have h2 := tC_zero d v 4 h 2 (by decide)
    have h3 := tC_zero d v 4 h 3 (by decide)
    rw [prt_mod v _ v1 v2] at h0 h1 h2 h3
    simp only [Nat.mul_zero, Nat.mul_one, show 16 * 2 = 32 from rfl, show 16 * 3 = 48 from rfl, show (2 : Int) ^ 0 = 1 from rfl, show (2 : Int) ^ 16 = 65536 from rfl, show (2 : Int) ^ 32 = 4294967296 from rfl, show (2 : Int) ^ 48 = 281474976710656 from rfl] at h0 h1 h2 h3
    omega
  · intro h
    subst h
    refine tC_zero' d 0 4 fun j hj => ?_
    rw [prt_mod 0 j (by decide) (by decide)]
    simp
/-- Put of the program, of any instructions. -/
theorem put_q (w : World) (FP : Nat → Prop) (p : Nat) (S : Lb) (mb : Nat) (v1 v3 : Value) (bx bY bz : Nat → Nat) (A : Option Addr) (m cap : Nat) (G : Nat → In) (h : LbC w FP p S mb v1 v3 bx bY bz) (hm : m ≤ 9223372036854775807) (hcap : m ≤ cap) (hA : 0 < m → ∀ b off, A = some ⟨b, off, none⟩ → ¬ FP b) (HS : Hid (SrcI w A m G)) :
    Calls Try.prog 29 #[.pointer (some ⟨p, 0, none⟩), .slice A m cap] w fun e w' => e = .returned (.tuple #[]) ∧ ((good G m ∧ LbQ w FP p (rowS S m G) w') ∨ (¬ good G m ∧ LbQ w FP p (S.fail 1) w')) := by
  by_cases hg : good G m
  · by_cases hf : S.n + m ≤ 65536
    · refine (put_y w FP p S mb v1 v3 bx bY bz A m cap G h hf HS hg).mono fun e w' hh => ⟨hh.1, .inl ⟨hg, ?_⟩⟩
      unfold rowS
      rw [if_pos hf]
      exact hh.2.q
    · refine (put_m w FP p S mb v1 v3 bx bY bz A m cap G h (by omega) hm hcap (hA (by have := h.nl; omega)) HS hg).mono fun e w' hh => ⟨hh.1, .inl ⟨hg, ?_⟩⟩
      unfold rowS
      rw [if_neg hf]
      exact hh.2.q
  · exact (put_bad w FP p S mb v1 v3 bx bY bz A m cap G h hm HS hg).mono fun e w' hh => ⟨hh.1, .inr ⟨hg, hh.2.q⟩⟩
theorem LbQ.after {w w1 w' : World} {FP : Nat → Prop} {p : Nat} {S' : Lb} (h : LbQ w1 FP p S' w') (hk : Kp FP w w1) : LbQ w FP p S' w' := by
  obtain ⟨FP', mb, v1', v3', bx, bY, bz, h1, h2, h3, h4⟩ := h
  exact ⟨FP', mb, v1', v3', bx, bY, bz, h1, fun k hf => (h2 k hf).imp id (fun h => Nat.le_trans hk.size h), h3, hk.trans h4 fun k hf => .inl hf⟩
theorem LbQ.congr {w w' : World} {FP : Nat → Prop} {p : Nat} {S T : Lb} (h : LbQ w FP p S w') (he : Eqv S T) : LbQ w FP p T w' := by
  obtain ⟨FP', mb, v1', v3', bx, bY, bz, h1, h2, h3, h4⟩ := h
  exact ⟨FP', mb, v1', v3', bx, bY, bz, h1.congr he, h2, h3, h4⟩
theorem LbQ.of {w w' : World} {FP : Nat → Prop} {p mb : Nat} {S' : Lb} {v1 v3 : Value} {bx bY bz : Nat → Nat} (h : LbC w' FP p S' mb v1 v3 bx bY bz) (hk : Kp FP w w') : LbQ w FP p S' w' :=
  ⟨FP, mb, v1, v3, bx, bY, bz, h, fun k hk => .inl hk, fun k hk => hk, hk⟩
/-- Put of one instruction that is built in place. -/
theorem one_q {w0 w : World} {FP : Nat → Prop} {p : Nat} {U : Lb} (h : LbQ w0 FP p U w) (x : In) (hx : x.e = 0) :
    Calls Try.prog 29 #[.pointer (some ⟨p, 0, none⟩), .slice (some ⟨w.heap.size, 0, none⟩) 1 1] (w.alloc (.cells #[.int .i64 x.op, .int .i64 x.d, .int .i64 x.n, .int .i64 x.m, .int .i64 x.a, .int .i64 x.c, .int .i64 x.i] 29)) fun e w' => e = .returned (.tuple #[]) ∧ LbQ w0 FP p (rowS U 1 (fun _ => x)) w' := by
  obtain ⟨F1, mb, v1, v3, bx, bY, bz, h1, h2, h3, h4⟩ := h
  have hb : Below w.heap.size w (w.alloc (.cells #[.int .i64 x.op, .int .i64 x.d, .int .i64 x.n, .int .i64 x.m, .int .i64 x.a, .int .i64 x.c, .int .i64 x.i] 29)) := (Below.refl _ _).alloc (Nat.le_refl _) _
  refine (put_q _ F1 p U mb v1 v3 bx bY bz (some ⟨w.heap.size, 0, none⟩) 1 1 (fun _ => x) (h1.past hb) (by decide) (by decide) (fun _ b off hb hf => by injection hb with hb; injection hb with hb; have := h1.fl _ hf; omega) (Lib.hid (one_src x w))).mono fun e w' hh => ⟨hh.1, ?_⟩
  rcases hh.2 with ⟨_, hq⟩ | ⟨hn, _⟩
  · obtain ⟨F2, mb', v1', v3', bx', bY', bz', g1, g2, g3, g4⟩ := hq
    refine ⟨F2, mb', v1', v3', bx', bY', bz', g1, fun k hf => ?_, fun k hf => g3 k (h3 k hf), ?_⟩
    · rcases g2 k hf with hf | hf
      · exact h2 k hf
      · exact .inr (Nat.le_trans h4.size (Nat.le_trans hb.size hf))
    · refine (h4.trans (FP' := F1) (Kp.of_below hb) fun k hf => h2 k hf).trans g4 fun k hf => h2 k hf
  · exact absurd (fun j _ => hx) hn
set_option maxRecDepth 100000 in
set_option maxHeartbeats 8000000 in
theorem const_bad (w : World) (FP : Nat → Prop) (p : Nat) (S : Lb) (mb : Nat) (v1 v3 : Value) (bx bY bz : Nat → Nat) (reg v : Int) (h : LbC w FP p S mb v1 v3 bx bY bz) (hr : reg < 0 ∨ 30 < reg) :
    Calls Try.prog 21 #[.pointer (some ⟨p, 0, none⟩), .int .i64 reg, .int .u64 v] w fun e w' => e = .returned (.tuple #[]) ∧ LbQ w FP p (S.fail 1) w' := by
  have H := Lib.hid h
  clear h
  go_enter Try.func21, Try.ntmps21
  go_wp2_with (go_at_call 80; refine (fail_c _ FP p S mb v1 v3 bx bY bz 1 H.out).mono ?_; rintro e w2 ⟨rfl, hc2, hk2⟩; have HC2 := Lib.hid hc2; have HK2 := Lib.hid hk2; clear hc2 hk2)
  all_goals (try (exfalso; omega))
  all_goals refine bodyPost_ret (results_none rfl _ _ _) rfl ⟨rfl, LbQ.of HC2.out HK2.out⟩
set_option maxRecDepth 100000 in
set_option maxHeartbeats 8000000 in
theorem const_q (w : World) (FP : Nat → Prop) (p : Nat) (S : Lb) (mb : Nat) (v1 v3 : Value) (bx bY bz : Nat → Nat) (reg v : Int) (h : LbC w FP p S mb v1 v3 bx bY bz) (hr : 0 ≤ reg ∧ reg ≤ 30) (hv : 0 ≤ v ∧ v < 18446744073709551616) :
    Calls Try.prog 21 #[.pointer (some ⟨p, 0, none⟩), .int .i64 reg, .int .u64 v] w fun e w' => e = .returned (.tuple #[]) ∧ LbQ w FP p (rowS S (tZ reg v).n (tZ reg v).F) w' := by
  have hnl := h.nl
  have H : Hid (LbQ w FP p (rowS S (tC reg v 0).n (tC reg v 0).F) w) := Lib.hid ((LbQ.of h (Kp.refl _ _)).congr (rowS_zero S _ hnl))
  have hz : v = 0 → (tC reg v 4).n = 0 := (n0_iff reg v hv.1 hv.2).2
  have hnz : ¬ v = 0 → ¬ (tC reg v 4).n = 0 := fun h h' => h ((n0_iff reg v hv.1 hv.2).1 h')
  have HZ := Lib.hid hz
  have HNZ := Lib.hid hnz
  have HNL := Lib.hid hnl
  clear h hz hnz hnl
  go_enter Try.func21, Try.ntmps21
  go_wp2
  go_loopw [6, 17] (fun s6 s17 W => ∃ k : Nat, k ≤ 4 ∧ s17 = .int .i64 k ∧ s6 = .int .i64 (opC v k) ∧ Hid (LbQ w FP p (rowS S (tC reg v k).n (tC reg v k).F) W)) (fun _ s17 _ => 4 - (intOf s17).toNat)
  case atStart => exact ⟨0, by omega, rfl, rfl, H⟩
  case round =>
    obtain ⟨k, hk, rfl, rfl, HL⟩ := hrel
    by_cases hlt : k < 4
    · go_upto_region 7 with (fail)
      rw [show wrap64 (bits BinOp.and IntKind.u64 (v / 2 ^ (16 * k)) 65535) = prt v k from rfl]
      obtain ⟨pv, hpv⟩ : ∃ pv, prt v k = pv := ⟨_, rfl⟩
      rw [hpv]
      have HPV := Lib.hid hpv
      by_cases hp : pv = 0
      · subst hp
        have HN : Hid (LbQ w FP p (rowS S (tC reg v (k + 1)).n (tC reg v (k + 1)).F) wr) := Lib.hid (by rw [tC_z reg v k HPV.out]; exact HL.out)
        have ho : opC v k = opC v (k + 1) := by
          conv => rhs; unfold opC
          rw [if_pos hpv]
        have HO := Lib.hid ho
        clear hpv ho
        go_wp2
        exact ⟨⟨k + 1, by omega, by go_num, by rw [← HO.out], HN⟩, by simp [intOf]; omega⟩
      · have hpb : (pv == 0) = false := by simpa using hp
        have HPut : Hid (Calls Try.prog 29 #[.pointer (some ⟨p, 0, none⟩), .slice (some ⟨wr.heap.size, 0, none⟩) 1 1] (wr.alloc (.cells #[.int .i64 (opC v k), .int .i64 reg, .int .i64 0, .int .i64 (k : Int), .int .i64 0, .int .i64 0, .int .i64 pv] 29)) fun e w' => e = .returned (.tuple #[]) ∧ LbQ w FP p (rowS S (tC reg v (k + 1)).n (tC reg v (k + 1)).F) w') := Lib.hid (by
          have := one_q HL.out (cI reg v k) (cI_ok reg v k hlt hr.1 hr.2 hv.1 hv.2)
          rw [tC_s reg v k (by rw [hpv]; exact hp), ← hpv]
          exact this.mono fun e w' hh => ⟨hh.1, hh.2.congr (rowS_one S _ _ _ HNL.out)⟩)
        have ho : opC v (k + 1) = 3 := by
          unfold opC
          rw [if_neg (by rw [hpv]; exact hp)]
        have HO := Lib.hid ho
        clear hpv ho
        go_wp2_with (go_at_call 29; refine HPut.out.mono ?_; rintro e w2 ⟨rfl, hl2⟩; have HL2 := Lib.hid hl2; clear hl2)
        exact ⟨⟨k + 1, by omega, by go_num, by rw [HO.out], HL2⟩, by simp [intOf]; omega⟩
    · obtain rfl : k = 4 := by omega
      by_cases hv0 : v = 0
      · subst hv0
        have HPut : Hid (Calls Try.prog 29 #[.pointer (some ⟨p, 0, none⟩), .slice (some ⟨wr.heap.size, 0, none⟩) 1 1] (wr.alloc (.cells #[.int .i64 2, .int .i64 reg, .int .i64 0, .int .i64 0, .int .i64 0, .int .i64 0, .int .i64 0] 29)) fun e w' => e = .returned (.tuple #[]) ∧ LbQ w FP p (rowS S (tZ reg 0).n (tZ reg 0).F) w') := Lib.hid (by
          have := one_q HL.out ⟨2, reg, 0, 0, 0, 0, 0⟩ (c0_ok reg hr.1 hr.2)
          have hT : tZ reg 0 = (tC reg 0 4).app (fun _ => ⟨2, reg, 0, 0, 0, 0, 0⟩) 1 := by unfold tZ; rw [if_pos (HZ.out rfl)]
          rw [hT]
          exact this.mono fun e w' hh => ⟨hh.1, hh.2.congr (rowS_one S _ _ _ HNL.out)⟩)
        go_wp2_with (go_at_call 29; refine HPut.out.mono ?_; rintro e w2 ⟨rfl, hl2⟩; have HL2 := Lib.hid hl2; clear hl2)
        go_end0
        exact ⟨rfl, HL2.out⟩
      · have hvb : (v == 0) = false := by simpa using hv0
        have HN : Hid (LbQ w FP p (rowS S (tZ reg v).n (tZ reg v).F) wr) := Lib.hid (by unfold tZ; rw [if_neg (HNZ.out hv0)]; exact HL.out)
        go_wp2
        go_end0
        exact ⟨rfl, HN.out⟩
end Go.Proofs.Ytnbpgoacooddjaa.Lab
namespace Go.Proofs.Ytnbpgoacooddjaa.Lab
open Go.ChangeShapes Go.WideShapes Go.ChangeAt Go.RowKit Go.Maps Go.Deep
open Go.Proofs.Ytnbpgoacooddjaa.En
set_option linter.unusedVariables false
attribute [local go_sem] rowAt_drew rowAt_drewN
set_option maxRecDepth 100000 in
set_option maxHeartbeats 8000000 in
theorem jump_f (w : World) (FP : Nat → Prop) (p : Nat) (S : Lb) (mb : Nat) (v1 v3 : Value) (bx bY bz : Nat → Nat) (x : In) (s : ByteArray) (h : LbC w FP p S mb v1 v3 bx bY bz) (hj : jumpB x.op = true) (hx : (zIn x).e = 0) (hn : Hid (¬ S.n < 65536)) (hjn : S.jn < 1000000) :
    Calls Try.prog 28 #[.pointer (some ⟨p, 0, none⟩), x.v, .string s] w fun e w' => e = .returned (.tuple #[]) ∧ LbQ w FP p (S.fail 2) w' := by
  have H := Lib.hid h
  have HX := Lib.hid hx
  have HJ := Lib.hid hj
  clear h hx hj
  show Calls Try.prog 28 #[.pointer (some ⟨p, 0, none⟩), .agg #[.int .i64 x.op, .int .i64 x.d, .int .i64 x.n, .int .i64 x.m, .int .i64 x.a, .int .i64 x.c, .int .i64 x.i], .string s] w _
  go_enter Try.func28, Try.ntmps28
  obtain ⟨W0, hW0⟩ : ∃ W0, ((((w.alloc (.cells #[.pointer (some ⟨p, 0, none⟩)] 43)).alloc (.cells #[.int .i64 x.op, .int .i64 x.d, .int .i64 x.n, .int .i64 x.m, .int .i64 x.a, .int .i64 x.c, .int .i64 x.i] 29)).alloc (.cells #[.string s] 9)).setCell ⟨w.heap.size + 1, 6, none⟩ (.int .i64 0)) = W0 := ⟨_, rfl⟩
  have z1 : (w.alloc (.cells #[.pointer (some ⟨p, 0, none⟩)] 43)).heap.size = w.heap.size + 1 := by simp
  have z2 : ((w.alloc (.cells #[.pointer (some ⟨p, 0, none⟩)] 43)).alloc (.cells #[.int .i64 x.op, .int .i64 x.d, .int .i64 x.n, .int .i64 x.m, .int .i64 x.a, .int .i64 x.c, .int .i64 x.i] 29)).heap.size = w.heap.size + 2 := by simp
  have b0 : Boxed (((w.alloc (.cells #[.pointer (some ⟨p, 0, none⟩)] 43)).alloc (.cells #[.int .i64 x.op, .int .i64 x.d, .int .i64 x.n, .int .i64 x.m, .int .i64 x.a, .int .i64 x.c, .int .i64 x.i] 29)).alloc (.cells #[.string s] 9)) w.heap.size 43 (.pointer (some ⟨p, 0, none⟩)) := ((Boxed.new w 43 _).alloc _).alloc _
  have b1 : rowAt (((w.alloc (.cells #[.pointer (some ⟨p, 0, none⟩)] 43)).alloc (.cells #[.int .i64 x.op, .int .i64 x.d, .int .i64 x.n, .int .i64 x.m, .int .i64 x.a, .int .i64 x.c, .int .i64 x.i] 29)).alloc (.cells #[.string s] 9)) (w.heap.size + 1) = some #[.int .i64 x.op, .int .i64 x.d, .int .i64 x.n, .int .i64 x.m, .int .i64 x.a, .int .i64 x.c, .int .i64 x.i] := rowAt_past (by rw [← z1]; exact rowAt_new _ _ _) _
  have b2 : Boxed (((w.alloc (.cells #[.pointer (some ⟨p, 0, none⟩)] 43)).alloc (.cells #[.int .i64 x.op, .int .i64 x.d, .int .i64 x.n, .int .i64 x.m, .int .i64 x.a, .int .i64 x.c, .int .i64 x.i] 29)).alloc (.cells #[.string s] 9)) (w.heap.size + 2) 9 (.string s) := by rw [← z2]; exact Boxed.new _ 9 _
  have B0 : Boxed W0 w.heap.size 43 (.pointer (some ⟨p, 0, none⟩)) := by rw [← hW0]; exact (Below.heap_setCell _ _ _ _ (by simp)).trans b0
  have B1 : rowAt W0 (w.heap.size + 1) = some #[.int .i64 x.op, .int .i64 x.d, .int .i64 x.n, .int .i64 x.m, .int .i64 x.a, .int .i64 x.c, .int .i64 0] := by rw [← hW0]; exact rowAt_set b1 6 _
  have B2 : Boxed W0 (w.heap.size + 2) 9 (.string s) := by rw [← hW0]; exact (Below.heap_setCell _ _ _ _ (by simp)).trans b2
  have L0 : Below w.heap.size w W0 := by rw [← hW0]; exact ((((Below.refl _ _).alloc (Nat.le_refl _) _).alloc (by simp) _).alloc (by simp; omega) _).setCell (p := ⟨w.heap.size + 1, 6, none⟩) (by simp) _
  have S0 : W0.heap.size = w.heap.size + 3 := by rw [← hW0]; simp
  have HB0 := Lib.hid B0
  have HB1 := Lib.hid B1
  have HB2 := Lib.hid B2
  have HL0 := Lib.hid L0
  have HS0 := Lib.hid S0
  have HC0 := Lib.hid (H.out.past L0)
  clear z1 z2 b0 b1 b2 B0 B2 L0 S0
  go_upto_region 2 with (fail)
  try rw [hW0]
  clear hW0
  have x0 := rowAt_cell B1 0
  have x1 := rowAt_cell B1 1
  have x2 := rowAt_cell B1 2
  have x3 := rowAt_cell B1 3
  have x4 := rowAt_cell B1 4
  have x5 := rowAt_cell B1 5
  have x6 := rowAt_cell B1 6
  clear B1
  have HCK := Lib.hid ((zIn x).check W0)
  obtain ⟨a1, cp1, rfl, _⟩ := own_form H.out.ins
  go_upto_region 4 with (first | (go_at_call 106; refine (isJump_c _ _).mono ?_; rintro e w2 ⟨rfl, rfl⟩; rw [HJ.out]) | (go_at_call 31; refine HCK.out.mono ?_; rintro e w3 ⟨he, hb3⟩; rw [HX.out] at he; subst he; have HB3 := Lib.hid hb3; clear hb3))
  clear x0 x1 x2 x3 x4 x5 x6
  have hs3 : w.heap.size + 3 ≤ w3.heap.size := by have := HB3.out.size; have := HS0.out; omega
  have HC3 := Lib.hid (HC0.out.past HB3.out)
  have B0 : Boxed w3 w.heap.size 43 (.pointer (some ⟨p, 0, none⟩)) := (HB3.out.block _ (by have := HS0.out; omega)).trans HB0.out
  have B1 : rowAt w3 (w.heap.size + 1) = some #[.int .i64 x.op, .int .i64 x.d, .int .i64 x.n, .int .i64 x.m, .int .i64 x.a, .int .i64 x.c, .int .i64 0] := rowAt_below HB1.out HB3.out rfl
  have B2 : Boxed w3 (w.heap.size + 2) 9 (.string s) := (HB3.out.block _ (by have := HS0.out; omega)).trans HB2.out
  have L3 : Below w.heap.size w w3 := HL0.out.trans (HB3.out.mono HL0.out.size)
  have cX := B0.cell
  have c1 := rowAt_cell HC3.out.rw 1
  simp only [cellsL] at c1
  obtain ⟨W4, hW4⟩ : ∃ W4, (w3.alloc (.cells #[.int .i64 0] 3)).setCell ⟨w3.heap.size, 0, none⟩ (.int .i64 (S.n : Int)) = W4 := ⟨_, rfl⟩
  have D0 : Boxed W4 w.heap.size 43 (.pointer (some ⟨p, 0, none⟩)) := by rw [← hW4]; exact Boxed.other (B0.alloc _) (by omega : w.heap.size ≠ w3.heap.size) _
  have D1 : rowAt W4 (w.heap.size + 1) = some #[.int .i64 x.op, .int .i64 x.d, .int .i64 x.n, .int .i64 x.m, .int .i64 x.a, .int .i64 x.c, .int .i64 0] := by rw [← hW4]; exact rowAt_set_far (rowAt_past B1 _) (by omega) _ _
  have D2 : Boxed W4 (w.heap.size + 2) 9 (.string s) := by rw [← hW4]; exact Boxed.other (B2.alloc _) (by omega : w.heap.size + 2 ≠ w3.heap.size) _
  have D3 : Boxed W4 w3.heap.size 3 (.int .i64 (S.n : Int)) := by rw [← hW4]; exact Boxed.set _ (Boxed.new w3 3 (.int .i64 0))
  have L4 : Below w3.heap.size w3 W4 := by rw [← hW4]; exact ((Below.refl _ _).alloc (Nat.le_refl _) _).setCell (p := ⟨w3.heap.size, 0, none⟩) (Nat.le_refl _) _
  have S4 : W4.heap.size = w3.heap.size + 1 := by rw [← hW4]; simp
  have HD0 := Lib.hid D0
  have HD1 := Lib.hid D1
  have HD2 := Lib.hid D2
  have HD3 := Lib.hid D3
  have HL3 := Lib.hid L3
  have HL4 := Lib.hid L4
  have HS4 := Lib.hid S4
  have HC4 := Lib.hid (HC3.out.past L4)
  have cX4 := D0.cell
  have y0 := rowAt_cell D1 0
  have y1 := rowAt_cell D1 1
  have y2 := rowAt_cell D1 2
  have y3 := rowAt_cell D1 3
  have y4 := rowAt_cell D1 4
  have y5 := rowAt_cell D1 5
  have y6 := rowAt_cell D1 6
  clear B0 B1 B2 L3 D0 D1 D2 D3 L4 S4 HC3 HC0 HB0 HB1 HB2 HB3 HL0 HCK
  go_upto_region 5 with (fail)
  try rw [hW4]
  clear hW4 cX c1
  have HSRC : Hid (∀ bt, rowAt (W4.alloc (.cells #[.int .i64 x.op, .int .i64 x.d, .int .i64 x.n, .int .i64 x.m, .int .i64 x.a, .int .i64 x.c, .int .i64 0] 29)) bt = some #[.int .i64 x.op, .int .i64 x.d, .int .i64 x.n, .int .i64 x.m, .int .i64 x.a, .int .i64 x.c, .int .i64 0] → SrcI (W4.alloc (.cells #[.int .i64 x.op, .int .i64 x.d, .int .i64 x.n, .int .i64 x.m, .int .i64 x.a, .int .i64 x.c, .int .i64 0] 29)) (some ⟨bt, 0, none⟩) 1 (fun _ => zIn x)) := Lib.hid (fun bt hb => .inr ⟨bt, 0, rfl, rowAt_lt hb, fun k hk => by
    obtain rfl : k = 0 := by omega
    exact ⟨rowAt_cell hb 0, rowAt_cell hb 1, rowAt_cell hb 2, rowAt_cell hb 3, rowAt_cell hb 4, rowAt_cell hb 5, rowAt_cell hb 6⟩⟩)
  have HPUT : Hid (Calls Try.prog 29 #[.pointer (some ⟨p, 0, none⟩), .slice (some ⟨W4.heap.size, 0, none⟩) 1 1] (W4.alloc (.cells #[.int .i64 x.op, .int .i64 x.d, .int .i64 x.n, .int .i64 x.m, .int .i64 x.a, .int .i64 x.c, .int .i64 0] 29)) fun e w' => e = .returned (.tuple #[]) ∧ LbQ W4 FP p (rowS S 1 (fun _ => zIn x)) w') := Lib.hid (one_q (LbQ.of HC4.out (Kp.refl FP W4)) (zIn x) HX.out)
  have hfl : ∀ k, FP k → k < w.heap.size := H.out.fl
  go_upto_region 6 with (go_at_call 29; refine HPUT.out.mono ?_; rintro e w5 ⟨rfl, hq5⟩; have HQ5 := Lib.hid hq5; clear hq5)
  have hq5 : LbQ W4 FP p (S.fail 2) w5 := HQ5.out.congr (by
    have hn' := hn.out
    unfold rowS
    rw [if_neg (by omega), show 65536 - S.n = 0 by omega]
    exact app_zero _ _)
  obtain ⟨F5, mb5, v15, v35, bx5, bY5, bz5, g1, g2, g3, g4⟩ := hq5
  obtain ⟨a5, cp5, rfl, _⟩ := own_form g1.ins
  have hB0 : Boxed w5 w.heap.size 43 (.pointer (some ⟨p, 0, none⟩)) := Boxed.kp HD0.out g4 (fun hf => by have := hfl _ hf; omega)
  have hB3 : Boxed w5 w3.heap.size 3 (.int .i64 (S.n : Int)) := Boxed.kp HD3.out g4 (fun hf => by have := hfl _ hf; omega)
  have c15 := rowAt_cell g1.rw 1
  rw [(fail_n S 2).1] at c15
  simp only [cellsL] at c15
  have cX5 := hB0.cell
  have cZ5 := hB3.cell
  have HG1 := Lib.hid g1
  have HLQ : Hid (LbQ w FP p (S.fail 2) w5) := Lib.hid (LbQ.after (w1 := W4) ⟨F5, mb5, _, v35, bx5, bY5, bz5, g1, g2, g3, g4⟩ (Kp.of_below (HL3.out.trans (HL4.out.mono HL3.out.size))))
  clear g1 g2 g3 g4 hB0 hB3 HG1 HQ5 HPUT
  have d1 : w5.drew.cell? ⟨w.heap.size, 0, none⟩ = some (.pointer (some ⟨p, 0, none⟩)) := cX5
  have d2 : w5.drew.cell? ⟨p, 1, none⟩ = some (.slice a5 S.n cp5) := c15
  have d3 : w5.drew.cell? ⟨w3.heap.size, 0, none⟩ = some (.int .i64 (S.n : Int)) := cZ5
  refine wp_region_held_drew (S := fun w' => w'.cell? ⟨w.heap.size, 0, none⟩ = some (.pointer (some ⟨p, 0, none⟩)) ∧ w'.cell? ⟨p, 1, none⟩ = some (.slice a5 S.n cp5) ∧ w'.cell? ⟨w3.heap.size, 0, none⟩ = some (.int .i64 (S.n : Int))) (by kernel_rfl) ⟨d1, d2, d3⟩ (fun hHeld => ?_)
  refine wpAnyH_take (i := 0) (oi := { dst := some 28, op := Op.load 43 (Operand.tmp 3), type := 43, pos := "lab.go:63", after := #[], guard := none }) (v := ?_) rfl (by kernel_rfl) (by kernel_rfl) (by kernel_rfl) (fun _ _ _ h => h) (Or.inl ⟨by rfl, ?_⟩) (by assumption) ?_
  rotate_left
  · (intro w0 hSw; (try dsimp only at hSw); go_split_ands; go_simp; with_reducible rfl)
  try simp only [Act.put, List.setIfInBounds_toArray, List.set_cons_zero, List.set_cons_succ]
  refine wpAnyH_take (i := 1) (oi := { dst := some 29, op := Op.nilCheck (Operand.tmp 28), type := 0, pos := "lab.go:63", after := #[{ on := 0, ground := Ground.data }], guard := none }) (v := ?_) rfl (by kernel_rfl) (by kernel_rfl) (by kernel_rfl) (fun _ _ _ h => h) (Or.inl ⟨by rfl, ?_⟩) (by assumption) ?_
  rotate_left
  · (intro w0 hSw; (try dsimp only at hSw); go_split_ands; go_simp; with_reducible rfl)
  try simp only [Act.put, List.setIfInBounds_toArray, List.set_cons_zero, List.set_cons_succ]
  refine wpAnyH_take (i := 2) (oi := { dst := some 30, op := Op.fieldAddr 149 (Operand.tmp 29) 1, type := 0, pos := "lab.go:63", after := #[{ on := 1, ground := Ground.data }], guard := none }) (v := ?_) rfl (by kernel_rfl) (by kernel_rfl) (by kernel_rfl) (fun _ _ _ h => h) (Or.inl ⟨by rfl, ?_⟩) (by assumption) ?_
  rotate_left
  · (intro w0 hSw; (try dsimp only at hSw); go_split_ands; go_simp; with_reducible rfl)
  try simp only [Act.put, List.setIfInBounds_toArray, List.set_cons_zero, List.set_cons_succ]
  refine wpAnyH_take (i := 3) (oi := { dst := some 31, op := Op.load 63 (Operand.tmp 30), type := 63, pos := "lab.go:63", after := #[{ on := 2, ground := Ground.data }], guard := none }) (v := ?_) rfl (by kernel_rfl) (by kernel_rfl) (by kernel_rfl) (fun _ _ _ h => h) (Or.inl ⟨by rfl, ?_⟩) (by assumption) ?_
  rotate_left
  · (intro w0 hSw; (try dsimp only at hSw); go_split_ands; go_simp; with_reducible rfl)
  try simp only [Act.put, List.setIfInBounds_toArray, List.set_cons_zero, List.set_cons_succ]
  refine wpAnyH_take (i := 4) (oi := { dst := some 32, op := Op.call { callee := Callee.builtin Builtin.len, args := #[Operand.tmp 31], argTypes := #[63] }, type := 3, pos := "lab.go:63", after := #[{ on := 3, ground := Ground.data }], guard := none }) (v := ?_) rfl (by kernel_rfl) (by kernel_rfl) (by kernel_rfl) (fun _ _ _ h => h) (Or.inl ⟨by rfl, ?_⟩) (by assumption) ?_
  rotate_left
  · (intro w0 hSw; (try dsimp only at hSw); go_split_ands; go_simp; with_reducible rfl)
  try simp only [Act.put, List.setIfInBounds_toArray, List.set_cons_zero, List.set_cons_succ]
  refine wpAnyH_take (i := 5) (oi := { dst := some 33, op := Op.load 3 (Operand.tmp 6), type := 3, pos := "lab.go:63", after := #[], guard := none }) (v := ?_) rfl (by kernel_rfl) (by kernel_rfl) (by kernel_rfl) (fun _ _ _ h => h) (Or.inl ⟨by rfl, ?_⟩) (by assumption) ?_
  rotate_left
  · (intro w0 hSw; (try dsimp only at hSw); go_split_ands; go_simp; with_reducible rfl)
  try simp only [Act.put, List.setIfInBounds_toArray, List.set_cons_zero, List.set_cons_succ]
  refine wpAnyH_take (i := 6) (oi := { dst := some 34, op := Op.binOp BinOp.eql 3 (Operand.tmp 32) (Operand.tmp 33) 3, type := 4, pos := "lab.go:63", after := #[{ on := 4, ground := Ground.data }, { on := 5, ground := Ground.data }], guard := none }) (v := ?_) rfl (by kernel_rfl) (by kernel_rfl) (by kernel_rfl) (fun _ _ _ h => h) (Or.inl ⟨by rfl, ?_⟩) (by assumption) ?_
  rotate_left
  · (intro w0 hSw; (try dsimp only at hSw); go_split_ands; go_simp; with_reducible rfl)
  try simp only [Act.put, List.setIfInBounds_toArray, List.set_cons_zero, List.set_cons_succ]
  refine wpAnyH_done (by kernel_rfl) ?_ _
  clear hHeld
  go_wp2
  refine bodyPost_ret (results_none rfl _ _ _) rfl ⟨rfl, ?_⟩
  obtain ⟨F5, mb5, v15, v35, bx5, bY5, bz5, g1, g2, g3, g4⟩ := HLQ.out
  exact ⟨F5, mb5, v15, v35, bx5, bY5, bz5, g1.past (Below.refl _ _).drew, g2, g3, g4.trans (FP' := FP) (Kp.of_below (Below.refl _ _).drew) fun k hf => .inl hf⟩
set_option maxRecDepth 100000 in
set_option maxHeartbeats 8000000 in
theorem jump_bad (w : World) (FP : Nat → Prop) (p : Nat) (S : Lb) (mb : Nat) (v1 v3 : Value) (bx bY bz : Nat → Nat) (x : In) (s : ByteArray) (h : LbC w FP p S mb v1 v3 bx bY bz) (hj : jumpB x.op = false ∨ (jumpB x.op = true ∧ (zIn x).e = 1)) :
    Calls Try.prog 28 #[.pointer (some ⟨p, 0, none⟩), x.v, .string s] w fun e w' => e = .returned (.tuple #[]) ∧ LbQ w FP p (S.fail 1) w' := by
  have H := Lib.hid h
  have HJ := Lib.hid hj
  clear h hj
  show Calls Try.prog 28 #[.pointer (some ⟨p, 0, none⟩), .agg #[.int .i64 x.op, .int .i64 x.d, .int .i64 x.n, .int .i64 x.m, .int .i64 x.a, .int .i64 x.c, .int .i64 x.i], .string s] w _
  go_enter Try.func28, Try.ntmps28
  obtain ⟨W0, hW0⟩ : ∃ W0, ((((w.alloc (.cells #[.pointer (some ⟨p, 0, none⟩)] 43)).alloc (.cells #[.int .i64 x.op, .int .i64 x.d, .int .i64 x.n, .int .i64 x.m, .int .i64 x.a, .int .i64 x.c, .int .i64 x.i] 29)).alloc (.cells #[.string s] 9)).setCell ⟨w.heap.size + 1, 6, none⟩ (.int .i64 0)) = W0 := ⟨_, rfl⟩
  have z1 : (w.alloc (.cells #[.pointer (some ⟨p, 0, none⟩)] 43)).heap.size = w.heap.size + 1 := by simp
  have z2 : ((w.alloc (.cells #[.pointer (some ⟨p, 0, none⟩)] 43)).alloc (.cells #[.int .i64 x.op, .int .i64 x.d, .int .i64 x.n, .int .i64 x.m, .int .i64 x.a, .int .i64 x.c, .int .i64 x.i] 29)).heap.size = w.heap.size + 2 := by simp
  have b0 : Boxed (((w.alloc (.cells #[.pointer (some ⟨p, 0, none⟩)] 43)).alloc (.cells #[.int .i64 x.op, .int .i64 x.d, .int .i64 x.n, .int .i64 x.m, .int .i64 x.a, .int .i64 x.c, .int .i64 x.i] 29)).alloc (.cells #[.string s] 9)) w.heap.size 43 (.pointer (some ⟨p, 0, none⟩)) := ((Boxed.new w 43 _).alloc _).alloc _
  have b1 : rowAt (((w.alloc (.cells #[.pointer (some ⟨p, 0, none⟩)] 43)).alloc (.cells #[.int .i64 x.op, .int .i64 x.d, .int .i64 x.n, .int .i64 x.m, .int .i64 x.a, .int .i64 x.c, .int .i64 x.i] 29)).alloc (.cells #[.string s] 9)) (w.heap.size + 1) = some #[.int .i64 x.op, .int .i64 x.d, .int .i64 x.n, .int .i64 x.m, .int .i64 x.a, .int .i64 x.c, .int .i64 x.i] := rowAt_past (by rw [← z1]; exact rowAt_new _ _ _) _
  have b2 : Boxed (((w.alloc (.cells #[.pointer (some ⟨p, 0, none⟩)] 43)).alloc (.cells #[.int .i64 x.op, .int .i64 x.d, .int .i64 x.n, .int .i64 x.m, .int .i64 x.a, .int .i64 x.c, .int .i64 x.i] 29)).alloc (.cells #[.string s] 9)) (w.heap.size + 2) 9 (.string s) := by rw [← z2]; exact Boxed.new _ 9 _
  have B0 : Boxed W0 w.heap.size 43 (.pointer (some ⟨p, 0, none⟩)) := by rw [← hW0]; exact (Below.heap_setCell _ _ _ _ (by simp)).trans b0
  have B1 : rowAt W0 (w.heap.size + 1) = some #[.int .i64 x.op, .int .i64 x.d, .int .i64 x.n, .int .i64 x.m, .int .i64 x.a, .int .i64 x.c, .int .i64 0] := by rw [← hW0]; exact rowAt_set b1 6 _
  have B2 : Boxed W0 (w.heap.size + 2) 9 (.string s) := by rw [← hW0]; exact (Below.heap_setCell _ _ _ _ (by simp)).trans b2
  have L0 : Below w.heap.size w W0 := by rw [← hW0]; exact ((((Below.refl _ _).alloc (Nat.le_refl _) _).alloc (by simp) _).alloc (by simp; omega) _).setCell (p := ⟨w.heap.size + 1, 6, none⟩) (by simp) _
  have S0 : W0.heap.size = w.heap.size + 3 := by rw [← hW0]; simp
  have HB0 := Lib.hid B0
  have HB1 := Lib.hid B1
  have HB2 := Lib.hid B2
  have HL0 := Lib.hid L0
  have HS0 := Lib.hid S0
  have HC0 := Lib.hid (H.out.past L0)
  clear z1 z2 b0 b1 b2 B0 B2 L0 S0
  go_upto_region 2 with (fail)
  try rw [hW0]
  clear hW0
  have x0 := rowAt_cell B1 0
  have x1 := rowAt_cell B1 1
  have x2 := rowAt_cell B1 2
  have x3 := rowAt_cell B1 3
  have x4 := rowAt_cell B1 4
  have x5 := rowAt_cell B1 5
  have x6 := rowAt_cell B1 6
  clear B1
  have HCK := Lib.hid ((zIn x).check W0)
  obtain ⟨a1, cp1, rfl, _⟩ := own_form H.out.ins
  have cX0 := HB0.out.cell
  rcases HJ.out with hj | ⟨hj, hx⟩
  · go_wp2_with (first | (go_at_call 106; refine (isJump_c _ _).mono ?_; rintro e w2 ⟨rfl, rfl⟩; rw [hj]) | (go_at_call 80; refine (fail_c _ FP p S mb _ v3 bx bY bz 1 HC0.out).mono ?_; rintro e w2 ⟨rfl, hc2, hk2⟩; have HC2 := Lib.hid hc2; have HK2 := Lib.hid hk2; clear hc2 hk2))
    refine bodyPost_ret (results_none rfl _ _ _) rfl ⟨rfl, LbQ.of HC2.out ((Kp.of_below HL0.out).trans HK2.out fun k hf => .inl hf)⟩
  · have hcX : ∀ V, Below W0.heap.size W0 V → V.cell? ⟨w.heap.size, 0, none⟩ = some (.pointer (some ⟨p, 0, none⟩)) := fun V hV => ((Boxed.kp HB0.out (Kp.of_below (FP := fun _ => False) hV) (fun h => h)).cell)
    have HCX := Lib.hid hcX
    clear hcX
    go_wp2_with (first | (go_at_call 106; refine (isJump_c _ _).mono ?_; rintro e w2 ⟨rfl, rfl⟩; rw [hj]) | (go_at_call 31; refine HCK.out.mono ?_; rintro e w3 ⟨he, hb3⟩; rw [hx] at he; subst he; have HB3 := Lib.hid hb3; have cX3 := HCX.out _ HB3.out; clear hb3) | (go_at_call 80; refine (fail_c _ FP p S mb _ v3 bx bY bz 1 (HC0.out.past HB3.out)).mono ?_; rintro e w2 ⟨rfl, hc2, hk2⟩; have HC2 := Lib.hid hc2; have HK2 := Lib.hid hk2; clear hc2 hk2))
    refine bodyPost_ret (results_none rfl _ _ _) rfl ⟨rfl, LbQ.of HC2.out ((Kp.of_below (HL0.out.trans (HB3.out.mono HL0.out.size))).trans HK2.out fun k hf => .inl hf)⟩
end Go.Proofs.Ytnbpgoacooddjaa.Lab
namespace Go.Proofs.Ytnbpgoacooddjaa.Lab
open Go.ChangeShapes Go.WideShapes Go.ChangeAt Go.RowKit Go.Maps Go.Deep
open Go.Proofs.Ytnbpgoacooddjaa.En
set_option linter.unusedVariables false
attribute [local go_sem] rowAt_drew rowAt_drewN
set_option maxRecDepth 100000 in
set_option maxHeartbeats 8000000 in
theorem rhere_c (w : World) (FP : Nat → Prop) (q : Nat) (S : Lb) (v1 v2 v3 : Value) (lm : Nat → ByteArray) (lt : Nat → Nat) (h : RfC w FP q S v1 v2 v3 lm lt) :
    Calls Try.prog 38 #[.pointer (some ⟨q, 0, none⟩)] w fun e w' => e = .returned (.int .u64 (placeS S.at0 S.n)) ∧ Below w.heap.size w w' := by
  have hnl := h.nl
  have c0 := rowAt_cell h.rw 0
  have c1 := rowAt_cell h.rw 1
  obtain ⟨a, cap, rfl, _⟩ := own_form h.ins
  simp only [cellsR] at c0 c1
  have d0 : w.drew.cell? ⟨q, 0, none⟩ = some (.int .u64 S.at0) := c0
  have d1 : w.drew.cell? ⟨q, 1, none⟩ = some (.slice a S.n cap) := c1
  have HB : Hid (Below w.heap.size w w.drew) := Lib.hid (Below.refl _ _).drew
  have HW : Hid (IntKind.u64.wrap (S.n : Int) = S.n) := Lib.hid (by rw [IntKind.wrap_u64]; omega)
  have HW4 : Hid (IntKind.u64.wrap (4 * (S.n : Int)) = 4 * S.n) := Lib.hid (by rw [IntKind.wrap_u64]; omega)
  have hw := HW.out
  have hw4 := HW4.out
  clear h c0 c1
  go_enter Try.func38, Try.ntmps38
  go_upto_region 1 with (fail)
  refine wp_region_held_drew (S := fun w' => w'.cell? ⟨q, 0, none⟩ = some (.int .u64 S.at0) ∧ w'.cell? ⟨q, 1, none⟩ = some (.slice a S.n cap)) (by kernel_rfl) ⟨d0, d1⟩ (fun hHeld => ?_)
  refine wpAnyH_take (i := 0) (oi := { dst := some 3, op := Op.move (Operand.tmp 0), type := 71, pos := "ref.go:122", after := #[], guard := none }) (v := ?_) rfl (by kernel_rfl) (by kernel_rfl) (by kernel_rfl) (fun _ _ _ h => h) (Or.inl ⟨by rfl, ?_⟩) (by assumption) ?_
  rotate_left
  · (intro w0 hSw; (try dsimp only at hSw); go_split_ands; go_simp; with_reducible rfl)
  try simp only [Act.put, List.setIfInBounds_toArray, List.set_cons_zero, List.set_cons_succ]
  refine wpAnyH_take (i := 1) (oi := { dst := some 4, op := Op.nilCheck (Operand.tmp 3), type := 0, pos := "ref.go:122", after := #[{ on := 0, ground := Ground.data }], guard := none }) (v := ?_) rfl (by kernel_rfl) (by kernel_rfl) (by kernel_rfl) (fun _ _ _ h => h) (Or.inl ⟨by rfl, ?_⟩) (by assumption) ?_
  rotate_left
  · (intro w0 hSw; (try dsimp only at hSw); go_split_ands; go_simp; with_reducible rfl)
  try simp only [Act.put, List.setIfInBounds_toArray, List.set_cons_zero, List.set_cons_succ]
  refine wpAnyH_take (i := 2) (oi := { dst := some 5, op := Op.fieldAddr 74 (Operand.tmp 4) 0, type := 0, pos := "ref.go:122", after := #[{ on := 1, ground := Ground.data }], guard := none }) (v := ?_) rfl (by kernel_rfl) (by kernel_rfl) (by kernel_rfl) (fun _ _ _ h => h) (Or.inl ⟨by rfl, ?_⟩) (by assumption) ?_
  rotate_left
  · (intro w0 hSw; (try dsimp only at hSw); go_split_ands; go_simp; with_reducible rfl)
  try simp only [Act.put, List.setIfInBounds_toArray, List.set_cons_zero, List.set_cons_succ]
  refine wpAnyH_take (i := 3) (oi := { dst := some 6, op := Op.load 23 (Operand.tmp 5), type := 23, pos := "ref.go:122", after := #[{ on := 2, ground := Ground.data }], guard := none }) (v := ?_) rfl (by kernel_rfl) (by kernel_rfl) (by kernel_rfl) (fun _ _ _ h => h) (Or.inl ⟨by rfl, ?_⟩) (by assumption) ?_
  rotate_left
  · (intro w0 hSw; (try dsimp only at hSw); go_split_ands; go_simp; with_reducible rfl)
  try simp only [Act.put, List.setIfInBounds_toArray, List.set_cons_zero, List.set_cons_succ]
  refine wpAnyH_take (i := 4) (oi := { dst := some 7, op := Op.move (Operand.tmp 0), type := 71, pos := "ref.go:122", after := #[], guard := none }) (v := ?_) rfl (by kernel_rfl) (by kernel_rfl) (by kernel_rfl) (fun _ _ _ h => h) (Or.inl ⟨by rfl, ?_⟩) (by assumption) ?_
  rotate_left
  · (intro w0 hSw; (try dsimp only at hSw); go_split_ands; go_simp; with_reducible rfl)
  try simp only [Act.put, List.setIfInBounds_toArray, List.set_cons_zero, List.set_cons_succ]
  refine wpAnyH_take (i := 5) (oi := { dst := some 8, op := Op.nilCheck (Operand.tmp 7), type := 0, pos := "ref.go:122", after := #[{ on := 4, ground := Ground.data }], guard := none }) (v := ?_) rfl (by kernel_rfl) (by kernel_rfl) (by kernel_rfl) (fun _ _ _ h => h) (Or.inl ⟨by rfl, ?_⟩) (by assumption) ?_
  rotate_left
  · (intro w0 hSw; (try dsimp only at hSw); go_split_ands; go_simp; with_reducible rfl)
  try simp only [Act.put, List.setIfInBounds_toArray, List.set_cons_zero, List.set_cons_succ]
  refine wpAnyH_take (i := 6) (oi := { dst := some 9, op := Op.fieldAddr 74 (Operand.tmp 8) 1, type := 0, pos := "ref.go:122", after := #[{ on := 5, ground := Ground.data }], guard := none }) (v := ?_) rfl (by kernel_rfl) (by kernel_rfl) (by kernel_rfl) (fun _ _ _ h => h) (Or.inl ⟨by rfl, ?_⟩) (by assumption) ?_
  rotate_left
  · (intro w0 hSw; (try dsimp only at hSw); go_split_ands; go_simp; with_reducible rfl)
  try simp only [Act.put, List.setIfInBounds_toArray, List.set_cons_zero, List.set_cons_succ]
  refine wpAnyH_take (i := 7) (oi := { dst := some 10, op := Op.load 63 (Operand.tmp 9), type := 63, pos := "ref.go:122", after := #[{ on := 6, ground := Ground.data }], guard := none }) (v := ?_) rfl (by kernel_rfl) (by kernel_rfl) (by kernel_rfl) (fun _ _ _ h => h) (Or.inl ⟨by rfl, ?_⟩) (by assumption) ?_
  rotate_left
  · (intro w0 hSw; (try dsimp only at hSw); go_split_ands; go_simp; with_reducible rfl)
  try simp only [Act.put, List.setIfInBounds_toArray, List.set_cons_zero, List.set_cons_succ]
  refine wpAnyH_take (i := 8) (oi := { dst := some 11, op := Op.call { callee := Callee.builtin Builtin.len, args := #[Operand.tmp 10], argTypes := #[63] }, type := 3, pos := "ref.go:122", after := #[{ on := 7, ground := Ground.data }], guard := none }) (v := ?_) rfl (by kernel_rfl) (by kernel_rfl) (by kernel_rfl) (fun _ _ _ h => h) (Or.inl ⟨by rfl, ?_⟩) (by assumption) ?_
  rotate_left
  · (intro w0 hSw; (try dsimp only at hSw); go_split_ands; go_simp; with_reducible rfl)
  try simp only [Act.put, List.setIfInBounds_toArray, List.set_cons_zero, List.set_cons_succ]
  refine wpAnyH_take (i := 9) (oi := { dst := some 12, op := Op.convert 3 23 (Operand.tmp 11), type := 23, pos := "ref.go:122", after := #[{ on := 8, ground := Ground.data }], guard := none }) (v := ?_) rfl (by kernel_rfl) (by kernel_rfl) (by kernel_rfl) (fun _ _ _ h => h) (Or.inl ⟨by rfl, ?_⟩) (by assumption) ?_
  rotate_left
  · (intro w0 hSw; (try dsimp only at hSw); go_split_ands; go_simp; with_reducible rfl)
  try simp only [Act.put, List.setIfInBounds_toArray, List.set_cons_zero, List.set_cons_succ]
  refine wpAnyH_take (i := 10) (oi := { dst := some 13, op := Op.binOp BinOp.mul 23 (Operand.const (Value.int Go.IntKind.u64 4)) (Operand.tmp 12) 23, type := 23, pos := "ref.go:122", after := #[{ on := 9, ground := Ground.data }], guard := none }) (v := ?_) rfl (by kernel_rfl) (by kernel_rfl) (by kernel_rfl) (fun _ _ _ h => h) (Or.inl ⟨by rfl, ?_⟩) (by assumption) ?_
  rotate_left
  · (intro w0 hSw; (try dsimp only at hSw); go_split_ands; go_simp; with_reducible rfl)
  try simp only [Act.put, List.setIfInBounds_toArray, List.set_cons_zero, List.set_cons_succ]
  refine wpAnyH_take (i := 11) (oi := { dst := some 14, op := Op.binOp BinOp.add 23 (Operand.tmp 6) (Operand.tmp 13) 23, type := 23, pos := "ref.go:122", after := #[{ on := 3, ground := Ground.data }, { on := 10, ground := Ground.data }], guard := none }) (v := ?_) rfl (by kernel_rfl) (by kernel_rfl) (by kernel_rfl) (fun _ _ _ h => h) (Or.inl ⟨by rfl, ?_⟩) (by assumption) ?_
  rotate_left
  · (intro w0 hSw; (try dsimp only at hSw); go_split_ands; go_simp; with_reducible rfl)
  try simp only [Act.put, List.setIfInBounds_toArray, List.set_cons_zero, List.set_cons_succ]
  refine wpAnyH_take (i := 12) (oi := { dst := some 2, op := Op.assign (Operand.tmp 14), type := 23, pos := "ref.go:122", after := #[{ on := 11, ground := Ground.data }, { on := 0, ground := Ground.phase }, { on := 1, ground := Ground.phase }, { on := 2, ground := Ground.phase }, { on := 3, ground := Ground.phase }, { on := 4, ground := Ground.phase }, { on := 5, ground := Ground.phase }, { on := 6, ground := Ground.phase }, { on := 7, ground := Ground.phase }, { on := 8, ground := Ground.phase }, { on := 9, ground := Ground.phase }, { on := 10, ground := Ground.phase }, { on := 11, ground := Ground.phase }], guard := none }) (v := ?_) rfl (by kernel_rfl) (by kernel_rfl) (by kernel_rfl) (fun _ _ _ h => h) (Or.inl ⟨by rfl, ?_⟩) (by assumption) ?_
  rotate_left
  · (intro w0 hSw; (try dsimp only at hSw); go_split_ands; go_simp; with_reducible rfl)
  try simp only [Act.put, List.setIfInBounds_toArray, List.set_cons_zero, List.set_cons_succ]
  refine wpAnyH_done (by kernel_rfl) ?_ _
  clear hHeld
  go_wp2
  go_ret
  exact ⟨rfl, HB.out⟩
set_option maxRecDepth 100000 in
set_option maxHeartbeats 8000000 in
theorem rwhere_n (w : World) (FP : Nat → Prop) (q : Nat) (S : Lb) (v1 v2 v3 : Value) (lm : Nat → ByteArray) (lt : Nat → Nat) (s : ByteArray) (h : RfC w FP q S v1 v2 v3 lm lt) (hcn : S.cnt ≤ 1000000) (hno : Maps.has S.D (ky s) = false) :
    Calls Try.prog 40 #[.pointer (some ⟨q, 0, none⟩), .string s] w fun e w' => e = .returned (.tuple #[.int .u64 0, .bool false]) ∧ w = w' := by
  have HF := Lib.hid (find_n w FP q S v1 v2 v3 lm lt s h hcn hno)
  clear h hno
  go_enter Try.func40, Try.ntmps40
  go_wp2_with (go_at_call 118; refine HF.out.mono ?_; rintro e w2 ⟨rfl, rfl⟩)
  go_ret2
  exact ⟨rfl, rfl⟩
set_option maxRecDepth 100000 in
set_option maxHeartbeats 8000000 in
theorem rwhere_y (w : World) (FP : Nat → Prop) (q : Nat) (S : Lb) (v1 v2 v3 : Value) (lm : Nat → ByteArray) (lt : Nat → Nat) (s : ByteArray) (t : Nat) (h : RfC w FP q S v1 v2 v3 lm lt) (hcn : S.cnt ≤ 1000000) (hh : Maps.has S.D (ky s) = true) (ha : S.D.atKey (ky s) (.lit (.int .i64 0)) = .lit (.int .i64 (t : Int))) (ht : t ≤ 1000000) :
    Calls Try.prog 40 #[.pointer (some ⟨q, 0, none⟩), .string s] w fun e w' => e = .returned (.tuple #[.int .u64 (placeS S.at0 t), .bool true]) ∧ w = w' := by
  have HF := Lib.hid (find_y w FP q S v1 v2 v3 lm lt s t h hcn hh ha)
  have c0 := rowAt_cell h.rw 0
  simp only [cellsR] at c0
  have hw : IntKind.u64.wrap (t : Int) = t := by rw [IntKind.wrap_u64]; omega
  have hw4 : IntKind.u64.wrap (4 * (t : Int)) = 4 * t := by rw [IntKind.wrap_u64]; omega
  clear h hh ha
  go_enter Try.func40, Try.ntmps40
  go_wp2_with (go_at_call 118; refine HF.out.mono ?_; rintro e w2 ⟨rfl, rfl⟩)
  go_ret2
  exact ⟨rfl, rfl⟩
set_option maxRecDepth 100000 in
set_option maxHeartbeats 8000000 in
theorem rconst_bad (w : World) (FP : Nat → Prop) (q : Nat) (S : Lb) (v1 v2 v3 : Value) (lm : Nat → ByteArray) (lt : Nat → Nat) (reg v : Int) (h : RfC w FP q S v1 v2 v3 lm lt) (hr : reg < 0 ∨ 30 < reg) :
    Calls Try.prog 37 #[.pointer (some ⟨q, 0, none⟩), .int .i64 reg, .int .u64 v] w fun e w' => e = .returned (.tuple #[]) ∧ RfP w FP q (S.fail 1) w' := by
  have H := Lib.hid h
  clear h
  go_enter Try.func37, Try.ntmps37
  go_wp2_with (go_at_call 116; refine (rfail_c _ FP q S v1 v2 v3 lm lt 1 H.out).mono ?_; rintro e w2 ⟨rfl, hc2, hk2⟩; have HC2 := Lib.hid hc2; have HK2 := Lib.hid hk2; clear hc2 hk2)
  all_goals (try (exfalso; omega))
  all_goals refine bodyPost_ret (results_none rfl _ _ _) rfl ⟨rfl, RfP.of HC2.out HK2.out⟩
theorem own_alloc {w : World} {B n size : Nat} {e : TypeId} {v : Value} {xs : List Value} (h : w.ownsRow B e size v n xs) (o : Obj) : (w.alloc o).ownsRow B e size v n xs :=
  ownsRow_kept h fun g hg => ((Below.refl w.heap.size w).alloc (Nat.le_refl _) o).block g (by
    obtain ⟨cur, hc⟩ := own_heap h hg
    exact (Array.getElem?_eq_some_iff.1 hc).1)
theorem tC_snoc (d v : Int) (k : Nat) (h : ¬ prt v k = 0) : insL (tC d v k).F (tC d v k).n ++ insL (fun _ => cI d v k) 1 = insL (tC d v (k + 1)).F (tC d v (k + 1)).n := by
  rw [tC_s d v k h]
  exact insL_cat _ _ _ 1
set_option maxRecDepth 100000 in
set_option maxHeartbeats 20000000 in
theorem rconst_q (w : World) (FP : Nat → Prop) (q : Nat) (S : Lb) (v1 v2 v3 : Value) (lm : Nat → ByteArray) (lt : Nat → Nat) (reg v : Int) (h : RfC w FP q S v1 v2 v3 lm lt) (hr : 0 ≤ reg ∧ reg ≤ 30) (hv : 0 ≤ v ∧ v < 18446744073709551616) :
    Calls Try.prog 37 #[.pointer (some ⟨q, 0, none⟩), .int .i64 reg, .int .u64 v] w fun e w' => e = .returned (.tuple #[]) ∧ RfP w FP q (rowS S (tZ reg v).n (tZ reg v).F) w' := by
  have hnl := h.nl
  have hfl := h.fl
  have H := Lib.hid h
  obtain ⟨a1, cp1, rfl, _⟩ := own_form h.ins
  clear h
  go_enter Try.func37, Try.ntmps37
  go_wp2
  go_loopw [6, 7] (fun s6 s7 W => ∃ (k : Nat) (v6 : Value), k ≤ 4 ∧ s7 = .int .i64 k ∧ s6 = v6 ∧ Hid (W.ownsRow w.heap.size 29 7 v6 (tC reg v k).n (insL (tC reg v k).F (tC reg v k).n)) ∧ Hid (Below w.heap.size w W)) (fun _ s7 _ => 4 - (intOf s7).toNat)
  case atStart => exact ⟨0, _, by omega, rfl, rfl, Lib.hid (World.ownsRow_nil _ _ _ _), Lib.hid (Below.refl _ _)⟩
  case round =>
    obtain ⟨k, v6, hk, rfl, rfl, HO, HB⟩ := hrel
    obtain ⟨a6, c6, rfl, hc6⟩ := own_form HO.out
    have hn6 := tC_n reg v k
    by_cases hlt : k < 4
    · go_upto_region 7 with (fail)
      rw [show wrap64 (bits BinOp.and IntKind.u64 (v / 2 ^ (16 * k)) 65535) = prt v k from rfl]
      obtain ⟨pv, hpv⟩ : ∃ pv, prt v k = pv := ⟨_, rfl⟩
      rw [hpv]
      have HPV := Lib.hid hpv
      by_cases hp : pv = 0
      · subst hp
        have HO2 : Hid (wr.ownsRow w.heap.size 29 7 (.slice a6 (tC reg v k).n c6) (tC reg v (k + 1)).n (insL (tC reg v (k + 1)).F (tC reg v (k + 1)).n)) := Lib.hid (by rw [tC_z reg v k HPV.out]; exact HO.out)
        clear hpv
        go_wp2
        exact ⟨⟨k + 1, _, by omega, by go_num, rfl, HO2, HB⟩, by simp [intOf]; omega⟩
      · have hpb : (pv == 0) = false := by simpa using hp
        have ho := opC_n reg v k
        have hsn := tC_snoc reg v k (by rw [hpv]; exact hp)
        have hnn : (tC reg v (k + 1)).n = (tC reg v k).n + 1 := by rw [tC_s reg v k (by rw [hpv]; exact hp)]; rfl
        have hci : cI reg v k = ⟨opC v k, reg, 0, k, 0, 0, pv⟩ := by rw [← hpv]; rfl
        rw [hci] at hsn
        obtain ⟨n, hn⟩ : ∃ n, (tC reg v k).n = n := ⟨_, rfl⟩
        rw [hn] at ho hsn hnn hn6 HO hc6
        try rw [hn]
        obtain ⟨op, hop⟩ : ∃ op, opC v k = op := ⟨_, rfl⟩
        rw [hop] at ho hsn
        have HSN := Lib.hid hsn
        have HNN := Lib.hid hnn
        have HOP := Lib.hid ho
        clear hpv ho hsn hnn hci hn hop
        have hsrc := one_src ⟨op, reg, 0, k, 0, 0, pv⟩ wr
        have HA : Hid (∀ o : Int, o = op → SrcI (wr.alloc (.cells #[.int .i64 o, .int .i64 reg, .int .i64 0, .int .i64 (k : Int), .int .i64 0, .int .i64 0, .int .i64 pv] 29)) (some ⟨wr.heap.size, 0, none⟩) 1 (fun _ => ⟨op, reg, 0, k, 0, 0, pv⟩)) := Lib.hid (fun o ho => by subst ho; exact hsrc)
        have HOW : Hid (∀ o : Int, (wr.alloc (.cells #[.int .i64 o, .int .i64 reg, .int .i64 0, .int .i64 (k : Int), .int .i64 0, .int .i64 0, .int .i64 pv] 29)).ownsRow w.heap.size 29 7 (.slice a6 n c6) n (insL (tC reg v k).F n)) := Lib.hid (fun o => own_alloc HO.out _)
        have hsz : w.heap.size ≤ wr.heap.size := HB.out.size
        clear hsrc
        by_cases hz : n = 0
        · subst hz
          obtain rfl : op = 2 := HOP.out
          go_wp2_with (at_builtin; refine wpl_append7 rfl _ _ rfl w.heap.size _ 0 _ rfl (HOW.out 2) (some ⟨wr.heap.size, 0, none⟩) 1 1 (fun _ => ⟨2, reg, 0, k, 0, 0, pv⟩) rfl (HA.out 2 rfl) (by omega) (by simp; omega) ?_; intro v7 w7 ho7 hg7 hl7; have HO7 := Lib.hid ho7; have HG7 := Lib.hid hg7; clear ho7 hg7 hl7)
          exact ⟨⟨k + 1, _, by omega, by go_num, rfl, Lib.hid (by rw [HSN.out, ← HNN.out] at HO7; exact HO7.out), Lib.hid ((HB.out.alloc hsz _).grown HG7.out (by simp; omega) (fun g hg => by have := (World.ownsRow.lt (HOW.out 2) g hg).1; omega))⟩, by simp [intOf]; omega⟩
        · have hzb : ((n : Int) == 0) = false := by simp; omega
          obtain rfl : op = 3 := by have := HOP.out; rw [if_neg hz] at this; exact this
          go_wp2_with (at_builtin; refine wpl_append7 rfl _ _ rfl w.heap.size _ n _ rfl (HOW.out 3) (some ⟨wr.heap.size, 0, none⟩) 1 1 (fun _ => ⟨3, reg, 0, k, 0, 0, pv⟩) rfl (HA.out 3 rfl) (by omega) (by simp; omega) ?_; intro v7 w7 ho7 hg7 hl7; have HO7 := Lib.hid ho7; have HG7 := Lib.hid hg7; clear ho7 hg7 hl7)
          exact ⟨⟨k + 1, _, by omega, by go_num, rfl, Lib.hid (by rw [HSN.out, ← HNN.out] at HO7; exact HO7.out), Lib.hid ((HB.out.alloc hsz _).grown HG7.out (by simp; omega) (fun g hg => by have := (World.ownsRow.lt (HOW.out 3) g hg).1; omega))⟩, by simp [intOf]; omega⟩
    · obtain rfl : k = 4 := by omega
      have hsz : w.heap.size ≤ wr.heap.size := HB.out.size
      by_cases hz : (tC reg v 4).n = 0
      · have hT : tZ reg v = (tC reg v 4).app (fun _ => ⟨2, reg, 0, 0, 0, 0, 0⟩) 1 := by unfold tZ; rw [if_pos hz]
        have HTN : Hid ((tZ reg v).n = 1) := Lib.hid (by rw [hT]; show (tC reg v 4).n + 1 = 1; rw [hz])
        have HTL : Hid (insL (tC reg v 4).F (tC reg v 4).n ++ insL (fun _ => ⟨2, reg, 0, 0, 0, 0, 0⟩) 1 = insL (tZ reg v).F (tZ reg v).n) := Lib.hid (by rw [hT]; exact insL_cat _ _ _ 1)
        have HA := Lib.hid (one_src ⟨2, reg, 0, 0, 0, 0, 0⟩ wr)
        have HOW : Hid ((wr.alloc (.cells #[.int .i64 2, .int .i64 reg, .int .i64 0, .int .i64 0, .int .i64 0, .int .i64 0, .int .i64 0] 29)).ownsRow w.heap.size 29 7 (.slice a6 0 c6) 0 (insL (tC reg v 4).F (tC reg v 4).n)) := Lib.hid (by
          have := HO.out
          rw [hz] at this ⊢
          exact own_alloc this _)
        rw [hz]
        clear hT hz HO
        go_wp2_with (at_builtin; refine wpl_append7 rfl _ _ rfl w.heap.size _ 0 _ rfl HOW.out (some ⟨wr.heap.size, 0, none⟩) 1 1 (fun _ => ⟨2, reg, 0, 0, 0, 0, 0⟩) rfl HA.out (by omega) (by simp; omega) ?_; intro v7 w7 ho7 hg7 hl7; have HO7 := Lib.hid ho7; have HG7 := Lib.hid hg7; clear ho7 hg7 hl7)
        obtain ⟨a6, c7, rfl, hc7⟩ := own_form HO7.out
        obtain ⟨M, hM⟩ : ∃ M, (0 + 1 : Nat) = M := ⟨_, rfl⟩
        have HMT : Hid ((tZ reg v).n = M) := Lib.hid (by rw [HTN.out, ← hM])
        have HOE : Hid (w7.ownsRow w.heap.size 29 7 (.slice a6 M c7) M (insL (tZ reg v).F M)) := Lib.hid (by have := HO7.out; rw [HTL.out, HTN.out] at this; rw [← hM]; exact this)
        have HBE : Hid (Below w.heap.size w w7) := Lib.hid ((HB.out.alloc hsz _).grown HG7.out (by simp; omega) (fun g hg => by have := (World.ownsRow.lt HOW.out g hg).1; omega))
        rw [hM] at hc7
        try rw [hM]
        have hM1 : M ≤ 5 := by omega
        clear hM HO7 HG7 HOW HA HTL HTN HB
        have HCAP : Hid (M ≤ c7) := Lib.hid (by omega)
        have HA : Hid (0 < M → ∀ b off, a6 = some ⟨b, off, none⟩ → ¬ FP b) := Lib.hid (fun _ b off hb hf => by have := hfl _ hf; subst hb; have := World.ownsRow.lt HOE.out b rfl; omega)
        have HSE := Lib.hid (src_of_own HOE.out)
        go_upto_region 14 with (fail)
        have hbd : Below w.heap.size w w7.drew := HBE.out.trans (Below.refl _ _).drew
        have HKd : Hid (Kp FP w w7.drew) := Lib.hid (Kp.of_below hbd)
        have Hd : Hid (RfC w7.drew FP q S (.slice a1 S.n cp1) v2 v3 lm lt) := Lib.hid (H.out.past hbd)
        have HSd : Hid (SrcI w7.drew a6 M (tZ reg v).F) := Lib.hid (HSE.out.past (Below.refl _ _).drew)
        clear hbd HBE HSE HOE
        refine wp_region_held_drew (S := fun _ => True) (by kernel_rfl) trivial (fun hHeld => ?_)
        generalize w7.drew = V at HKd Hd HSd hHeld ⊢
        refine wpAnyH_take (i := 0) (oi := { dst := some 50, op := Op.move (Operand.tmp 0), type := 71, pos := "ref.go:118", after := #[], guard := none }) (v := ?_) rfl (by kernel_rfl) (by kernel_rfl) (by kernel_rfl) (fun _ _ _ h => h) (Or.inl ⟨by rfl, ?_⟩) (by assumption) ?_
        rotate_left
        · (intro w0 hSw; (try dsimp only at hSw); go_split_ands; go_simp; with_reducible rfl)
        try simp only [Act.put, List.setIfInBounds_toArray, List.set_cons_zero, List.set_cons_succ]
        refine wpAnyH_take (i := 1) (oi := { dst := some 51, op := Op.move (Operand.tmp 0), type := 71, pos := "ref.go:118", after := #[], guard := none }) (v := ?_) rfl (by kernel_rfl) (by kernel_rfl) (by kernel_rfl) (fun _ _ _ h => h) (Or.inl ⟨by rfl, ?_⟩) (by assumption) ?_
        rotate_left
        · (intro w0 hSw; (try dsimp only at hSw); go_split_ands; go_simp; with_reducible rfl)
        try simp only [Act.put, List.setIfInBounds_toArray, List.set_cons_zero, List.set_cons_succ]
        refine wpAnyH_take (i := 2) (oi := { dst := some 52, op := Op.nilCheck (Operand.tmp 51), type := 0, pos := "ref.go:118", after := #[{ on := 1, ground := Ground.data }], guard := none }) (v := ?_) rfl (by kernel_rfl) (by kernel_rfl) (by kernel_rfl) (fun _ _ _ h => h) (Or.inl ⟨by rfl, ?_⟩) (by assumption) ?_
        rotate_left
        · (intro w0 hSw; (try dsimp only at hSw); go_split_ands; go_simp; with_reducible rfl)
        try simp only [Act.put, List.setIfInBounds_toArray, List.set_cons_zero, List.set_cons_succ]
        refine wpAnyH_take (i := 3) (oi := { dst := some 53, op := Op.fieldAddr 74 (Operand.tmp 52) 1, type := 0, pos := "ref.go:118", after := #[{ on := 2, ground := Ground.data }], guard := none }) (v := ?_) rfl (by kernel_rfl) (by kernel_rfl) (by kernel_rfl) (fun _ _ _ h => h) (Or.inl ⟨by rfl, ?_⟩) (by assumption) ?_
        rotate_left
        · (intro w0 hSw; (try dsimp only at hSw); go_split_ands; go_simp; with_reducible rfl)
        try simp only [Act.put, List.setIfInBounds_toArray, List.set_cons_zero, List.set_cons_succ]
        refine wpAnyH_take (i := 5) (oi := { dst := some 55, op := Op.move (Operand.tmp 0), type := 71, pos := "ref.go:118", after := #[], guard := none }) (v := ?_) rfl (by kernel_rfl) (by kernel_rfl) (by kernel_rfl) (fun _ _ _ h => h) (Or.inl ⟨by rfl, ?_⟩) (by assumption) ?_
        rotate_left
        · (intro w0 hSw; (try dsimp only at hSw); go_split_ands; go_simp; with_reducible rfl)
        try simp only [Act.put, List.setIfInBounds_toArray, List.set_cons_zero, List.set_cons_succ]
        refine wpAnyH_take (i := 6) (oi := { dst := some 56, op := Op.move (Operand.tmp 6), type := 63, pos := "ref.go:118", after := #[], guard := none }) (v := ?_) rfl (by kernel_rfl) (by kernel_rfl) (by kernel_rfl) (fun _ _ _ h => h) (Or.inl ⟨by rfl, ?_⟩) (by assumption) ?_
        rotate_left
        · (intro w0 hSw; (try dsimp only at hSw); go_split_ands; go_simp; with_reducible rfl)
        try simp only [Act.put, List.setIfInBounds_toArray, List.set_cons_zero, List.set_cons_succ]
        refine wpAnyH_ready (rs := [4, 7]) (by kernel_rfl) (by simp) ?_
        refine AllReadyH.cons (o := { dst := some 54, op := Op.load 63 (Operand.tmp 53), type := 63, pos := "ref.go:118", after := #[{ on := 3, ground := Ground.data }], guard := none }) rfl (fun K hK => ?_) (AllReadyH.cons (o := { dst := some 57, op := Op.call { callee := Callee.value (Operand.func 117), args := #[Operand.tmp 55, Operand.tmp 56], argTypes := #[71, 63] }, type := 63, pos := "ref.go:118", after := #[{ on := 5, ground := Ground.data }, { on := 6, ground := Ground.data }], guard := none }) rfl (fun K hK => ?_) AllReadyH.nil)
        · have c1 := rowAt_cell Hd.out.rw 1
          simp only [cellsR] at c1
          go_simp
          refine hK.out _ _ trivial (fun hHeld => ?_)
          clear hK K
          try simp only [Act.put, List.setIfInBounds_toArray, List.set_cons_zero, List.set_cons_succ]
          refine wpAnyH_ready (rs := [7]) (by kernel_rfl) (by simp) ?_
          refine AllReadyH.cons (o := { dst := some 57, op := Op.call { callee := Callee.value (Operand.func 117), args := #[Operand.tmp 55, Operand.tmp 56], argTypes := #[71, 63] }, type := 63, pos := "ref.go:118", after := #[{ on := 5, ground := Ground.data }, { on := 6, ground := Ground.data }], guard := none }) rfl (fun K hK => ?_) AllReadyH.nil
          go_simp
          go_at_call 117
          refine (room_c _ FP q S _ v2 v3 lm lt a6 M c7 (tZ reg v).F Hd.out (by omega) HCAP.out HA.out HSd).mono ?_
          rintro e w2 ⟨S1, k, rfl, hc2, hk2, hs2, hle, hrow, hn, hF, _⟩
          have HC2 := Lib.hid hc2
          have HK2 := Lib.hid hk2
          have HS2 := Lib.hid hs2
          have HROW := Lib.hid hrow
          have HI2 : Hid (w2.ownsRow 0 29 7 (.slice a1 S.n cp1) S.n (insL S.F S.n)) := Lib.hid (by have := hc2.ins; rw [hn, hF] at this; exact this)
          clear hc2 hk2 hs2 hrow
          refine hK.out _ _ trivial (fun hHeld => ?_)
          clear hK K
          try simp only [Act.put, List.setIfInBounds_toArray, List.set_cons_zero, List.set_cons_succ]
          refine wpAnyH_ready (rs := [8]) (by kernel_rfl) (by simp) ?_
          refine AllReadyH.cons (o := { dst := some 58, op := Op.call { callee := Callee.builtin Builtin.append, args := #[Operand.tmp 54, Operand.tmp 57], argTypes := #[63, 63] }, type := 63, pos := "ref.go:118", after := #[{ on := 4, ground := Ground.data }, { on := 7, ground := Ground.data }, { on := 7, ground := Ground.chain }], guard := none }) rfl (fun K hK => ?_) AllReadyH.nil
          obtain ⟨v', w3, hr, ho3, hg3, hl3⟩ := run_append7 w2 63 0 (.slice a1 S.n cp1) S.n _ HI2.out a6 k c7 (tZ reg v).F HS2.out (by omega) (Nat.zero_le _)
          obtain ⟨a3, cp3, rfl, _⟩ := own_form ho3
          have hP3 := HC2.out.apped (by rw [hn, hF]; exact ho3) hg3 hl3 hle
          rw [HROW.out] at hP3
          have HP3 := Lib.hid hP3
          have hrow3 : rowAt w3 q = some (cellsR S1.at0 (.slice a1 S.n cp1) v2 v3 S1.err) := rowAt_of ((hg3.block q (HC2.out.fl q HC2.out.fp) (fun e => HC2.out.p1 e.symm rfl)).trans HC2.out.row)
          have c13 := rowAt_cell hrow3 1
          have f13 := rowAt_frz hrow3 1
          simp only [cellsR] at c13
          clear hrow3 hP3
          refine step_append_run rfl _ _ _ rfl _ _ _ _ rfl rfl hr ?_
          refine hK.out _ _ trivial (fun hHeld => ?_)
          clear hK K
          try simp only [Act.put, List.setIfInBounds_toArray, List.set_cons_zero, List.set_cons_succ]
          refine wpAnyH_take (i := 9) (oi := { dst := some 59, op := Op.nilCheck (Operand.tmp 50), type := 0, pos := "ref.go:118", after := #[{ on := 0, ground := Ground.data }, { on := 0, ground := Ground.phase }, { on := 1, ground := Ground.phase }, { on := 2, ground := Ground.phase }, { on := 3, ground := Ground.phase }, { on := 4, ground := Ground.phase }, { on := 5, ground := Ground.phase }, { on := 6, ground := Ground.phase }, { on := 7, ground := Ground.phase }, { on := 8, ground := Ground.phase }], guard := none }) (v := ?_) rfl (by kernel_rfl) (by kernel_rfl) (by kernel_rfl) (fun _ _ _ h => h) (Or.inl ⟨by rfl, ?_⟩) (by assumption) ?_
          rotate_left
          · (intro w0 hSw; (try dsimp only at hSw); go_split_ands; go_simp; with_reducible rfl)
          try simp only [Act.put, List.setIfInBounds_toArray, List.set_cons_zero, List.set_cons_succ]
          refine wpAnyH_take (i := 10) (oi := { dst := some 60, op := Op.fieldAddr 74 (Operand.tmp 59) 1, type := 0, pos := "ref.go:118", after := #[{ on := 9, ground := Ground.data }, { on := 0, ground := Ground.phase }, { on := 1, ground := Ground.phase }, { on := 2, ground := Ground.phase }, { on := 3, ground := Ground.phase }, { on := 4, ground := Ground.phase }, { on := 5, ground := Ground.phase }, { on := 6, ground := Ground.phase }, { on := 7, ground := Ground.phase }, { on := 8, ground := Ground.phase }], guard := none }) (v := ?_) rfl (by kernel_rfl) (by kernel_rfl) (by kernel_rfl) (fun _ _ _ h => h) (Or.inl ⟨by rfl, ?_⟩) (by assumption) ?_
          rotate_left
          · (intro w0 hSw; (try dsimp only at hSw); go_split_ands; go_simp; with_reducible rfl)
          try simp only [Act.put, List.setIfInBounds_toArray, List.set_cons_zero, List.set_cons_succ]
          refine wpAnyH_ready (rs := [11]) (by kernel_rfl) (by simp) ?_
          refine AllReadyH.cons (o := { dst := none, op := Op.store 63 (Operand.tmp 60) (Operand.tmp 58), type := 0, pos := "ref.go:118", after := #[{ on := 10, ground := Ground.data }, { on := 8, ground := Ground.data }, { on := 8, ground := Ground.chain }, { on := 0, ground := Ground.phase }, { on := 1, ground := Ground.phase }, { on := 2, ground := Ground.phase }, { on := 3, ground := Ground.phase }, { on := 4, ground := Ground.phase }, { on := 5, ground := Ground.phase }, { on := 6, ground := Ground.phase }, { on := 7, ground := Ground.phase }, { on := 8, ground := Ground.phase }], guard := none }) rfl (fun K hK => ?_) AllReadyH.nil
          go_simp
          refine hK.out _ _ trivial (fun hHeld => ?_)
          clear hK K
          try simp only [Act.put, List.setIfInBounds_toArray, List.set_cons_zero, List.set_cons_succ]
          refine wpAnyH_done (by kernel_rfl) ?_ _
          clear hHeld
          go_end0
          exact ⟨rfl, by rw [HMT.out]; exact (HP3.out.after HK2.out).after HKd.out⟩
        · go_simp
          go_at_call 117
          refine (room_c _ FP q S _ v2 v3 lm lt a6 M c7 (tZ reg v).F Hd.out (by omega) HCAP.out HA.out HSd).mono ?_
          rintro e w2 ⟨S1, k, rfl, hc2, hk2, hs2, hle, hrow, hn, hF, _⟩
          have HC2 := Lib.hid hc2
          have HK2 := Lib.hid hk2
          have HS2 := Lib.hid hs2
          have HROW := Lib.hid hrow
          have HI2 : Hid (w2.ownsRow 0 29 7 (.slice a1 S.n cp1) S.n (insL S.F S.n)) := Lib.hid (by have := hc2.ins; rw [hn, hF] at this; exact this)
          clear hc2 hk2 hs2 hrow
          refine hK.out _ _ trivial (fun hHeld => ?_)
          clear hK K
          try simp only [Act.put, List.setIfInBounds_toArray, List.set_cons_zero, List.set_cons_succ]
          refine wpAnyH_ready (rs := [4]) (by kernel_rfl) (by simp) ?_
          refine AllReadyH.cons (o := { dst := some 54, op := Op.load 63 (Operand.tmp 53), type := 63, pos := "ref.go:118", after := #[{ on := 3, ground := Ground.data }], guard := none }) rfl (fun K hK => ?_) AllReadyH.nil
          have c1 := rowAt_cell HC2.out.rw 1
          simp only [cellsR] at c1
          go_simp
          refine hK.out _ _ trivial (fun hHeld => ?_)
          clear hK K
          try simp only [Act.put, List.setIfInBounds_toArray, List.set_cons_zero, List.set_cons_succ]
          refine wpAnyH_ready (rs := [8]) (by kernel_rfl) (by simp) ?_
          refine AllReadyH.cons (o := { dst := some 58, op := Op.call { callee := Callee.builtin Builtin.append, args := #[Operand.tmp 54, Operand.tmp 57], argTypes := #[63, 63] }, type := 63, pos := "ref.go:118", after := #[{ on := 4, ground := Ground.data }, { on := 7, ground := Ground.data }, { on := 7, ground := Ground.chain }], guard := none }) rfl (fun K hK => ?_) AllReadyH.nil
          obtain ⟨v', w3, hr, ho3, hg3, hl3⟩ := run_append7 w2 63 0 (.slice a1 S.n cp1) S.n _ HI2.out a6 k c7 (tZ reg v).F HS2.out (by omega) (Nat.zero_le _)
          obtain ⟨a3, cp3, rfl, _⟩ := own_form ho3
          have hP3 := HC2.out.apped (by rw [hn, hF]; exact ho3) hg3 hl3 hle
          rw [HROW.out] at hP3
          have HP3 := Lib.hid hP3
          have hrow3 : rowAt w3 q = some (cellsR S1.at0 (.slice a1 S.n cp1) v2 v3 S1.err) := rowAt_of ((hg3.block q (HC2.out.fl q HC2.out.fp) (fun e => HC2.out.p1 e.symm rfl)).trans HC2.out.row)
          have c13 := rowAt_cell hrow3 1
          have f13 := rowAt_frz hrow3 1
          simp only [cellsR] at c13
          clear hrow3 hP3
          refine step_append_run rfl _ _ _ rfl _ _ _ _ rfl rfl hr ?_
          refine hK.out _ _ trivial (fun hHeld => ?_)
          clear hK K
          try simp only [Act.put, List.setIfInBounds_toArray, List.set_cons_zero, List.set_cons_succ]
          refine wpAnyH_take (i := 9) (oi := { dst := some 59, op := Op.nilCheck (Operand.tmp 50), type := 0, pos := "ref.go:118", after := #[{ on := 0, ground := Ground.data }, { on := 0, ground := Ground.phase }, { on := 1, ground := Ground.phase }, { on := 2, ground := Ground.phase }, { on := 3, ground := Ground.phase }, { on := 4, ground := Ground.phase }, { on := 5, ground := Ground.phase }, { on := 6, ground := Ground.phase }, { on := 7, ground := Ground.phase }, { on := 8, ground := Ground.phase }], guard := none }) (v := ?_) rfl (by kernel_rfl) (by kernel_rfl) (by kernel_rfl) (fun _ _ _ h => h) (Or.inl ⟨by rfl, ?_⟩) (by assumption) ?_
          rotate_left
          · (intro w0 hSw; (try dsimp only at hSw); go_split_ands; go_simp; with_reducible rfl)
          try simp only [Act.put, List.setIfInBounds_toArray, List.set_cons_zero, List.set_cons_succ]
          refine wpAnyH_take (i := 10) (oi := { dst := some 60, op := Op.fieldAddr 74 (Operand.tmp 59) 1, type := 0, pos := "ref.go:118", after := #[{ on := 9, ground := Ground.data }, { on := 0, ground := Ground.phase }, { on := 1, ground := Ground.phase }, { on := 2, ground := Ground.phase }, { on := 3, ground := Ground.phase }, { on := 4, ground := Ground.phase }, { on := 5, ground := Ground.phase }, { on := 6, ground := Ground.phase }, { on := 7, ground := Ground.phase }, { on := 8, ground := Ground.phase }], guard := none }) (v := ?_) rfl (by kernel_rfl) (by kernel_rfl) (by kernel_rfl) (fun _ _ _ h => h) (Or.inl ⟨by rfl, ?_⟩) (by assumption) ?_
          rotate_left
          · (intro w0 hSw; (try dsimp only at hSw); go_split_ands; go_simp; with_reducible rfl)
          try simp only [Act.put, List.setIfInBounds_toArray, List.set_cons_zero, List.set_cons_succ]
          refine wpAnyH_ready (rs := [11]) (by kernel_rfl) (by simp) ?_
          refine AllReadyH.cons (o := { dst := none, op := Op.store 63 (Operand.tmp 60) (Operand.tmp 58), type := 0, pos := "ref.go:118", after := #[{ on := 10, ground := Ground.data }, { on := 8, ground := Ground.data }, { on := 8, ground := Ground.chain }, { on := 0, ground := Ground.phase }, { on := 1, ground := Ground.phase }, { on := 2, ground := Ground.phase }, { on := 3, ground := Ground.phase }, { on := 4, ground := Ground.phase }, { on := 5, ground := Ground.phase }, { on := 6, ground := Ground.phase }, { on := 7, ground := Ground.phase }, { on := 8, ground := Ground.phase }], guard := none }) rfl (fun K hK => ?_) AllReadyH.nil
          go_simp
          refine hK.out _ _ trivial (fun hHeld => ?_)
          clear hK K
          try simp only [Act.put, List.setIfInBounds_toArray, List.set_cons_zero, List.set_cons_succ]
          refine wpAnyH_done (by kernel_rfl) ?_ _
          clear hHeld
          go_end0
          exact ⟨rfl, by rw [HMT.out]; exact (HP3.out.after HK2.out).after HKd.out⟩
      · have hT : tZ reg v = tC reg v 4 := by unfold tZ; rw [if_neg hz]
        have HOE := HO
        obtain ⟨M, hM⟩ : ∃ M, (tC reg v 4).n = M := ⟨_, rfl⟩
        have HMT : Hid ((tZ reg v).n = M) := Lib.hid (by rw [hT, hM])
        have hzb : ((M : Int) == 0) = false := by simp; omega
        have HOE : Hid (wr.ownsRow w.heap.size 29 7 (.slice a6 M c6) M (insL (tZ reg v).F M)) := Lib.hid (by have := HO.out; rw [hT]; rw [hM] at this; exact this)
        rw [hM] at hn6 hz hc6
        try rw [hM]
        have HBE := HB
        clear HO HB hT hM
        have HCAP : Hid (M ≤ c6) := Lib.hid (by omega)
        have HA : Hid (0 < M → ∀ b off, a6 = some ⟨b, off, none⟩ → ¬ FP b) := Lib.hid (fun _ b off hb hf => by have := hfl _ hf; subst hb; have := World.ownsRow.lt HOE.out b rfl; omega)
        have HSE := Lib.hid (src_of_own HOE.out)
        go_upto_region 14 with (fail)
        have hbd : Below w.heap.size w wr.drew := HBE.out.trans (Below.refl _ _).drew
        have HKd : Hid (Kp FP w wr.drew) := Lib.hid (Kp.of_below hbd)
        have Hd : Hid (RfC wr.drew FP q S (.slice a1 S.n cp1) v2 v3 lm lt) := Lib.hid (H.out.past hbd)
        have HSd : Hid (SrcI wr.drew a6 M (tZ reg v).F) := Lib.hid (HSE.out.past (Below.refl _ _).drew)
        clear hbd HBE HSE HOE
        refine wp_region_held_drew (S := fun _ => True) (by kernel_rfl) trivial (fun hHeld => ?_)
        generalize wr.drew = V at HKd Hd HSd hHeld ⊢
        refine wpAnyH_take (i := 0) (oi := { dst := some 50, op := Op.move (Operand.tmp 0), type := 71, pos := "ref.go:118", after := #[], guard := none }) (v := ?_) rfl (by kernel_rfl) (by kernel_rfl) (by kernel_rfl) (fun _ _ _ h => h) (Or.inl ⟨by rfl, ?_⟩) (by assumption) ?_
        rotate_left
        · (intro w0 hSw; (try dsimp only at hSw); go_split_ands; go_simp; with_reducible rfl)
        try simp only [Act.put, List.setIfInBounds_toArray, List.set_cons_zero, List.set_cons_succ]
        refine wpAnyH_take (i := 1) (oi := { dst := some 51, op := Op.move (Operand.tmp 0), type := 71, pos := "ref.go:118", after := #[], guard := none }) (v := ?_) rfl (by kernel_rfl) (by kernel_rfl) (by kernel_rfl) (fun _ _ _ h => h) (Or.inl ⟨by rfl, ?_⟩) (by assumption) ?_
        rotate_left
        · (intro w0 hSw; (try dsimp only at hSw); go_split_ands; go_simp; with_reducible rfl)
        try simp only [Act.put, List.setIfInBounds_toArray, List.set_cons_zero, List.set_cons_succ]
        refine wpAnyH_take (i := 2) (oi := { dst := some 52, op := Op.nilCheck (Operand.tmp 51), type := 0, pos := "ref.go:118", after := #[{ on := 1, ground := Ground.data }], guard := none }) (v := ?_) rfl (by kernel_rfl) (by kernel_rfl) (by kernel_rfl) (fun _ _ _ h => h) (Or.inl ⟨by rfl, ?_⟩) (by assumption) ?_
        rotate_left
        · (intro w0 hSw; (try dsimp only at hSw); go_split_ands; go_simp; with_reducible rfl)
        try simp only [Act.put, List.setIfInBounds_toArray, List.set_cons_zero, List.set_cons_succ]
        refine wpAnyH_take (i := 3) (oi := { dst := some 53, op := Op.fieldAddr 74 (Operand.tmp 52) 1, type := 0, pos := "ref.go:118", after := #[{ on := 2, ground := Ground.data }], guard := none }) (v := ?_) rfl (by kernel_rfl) (by kernel_rfl) (by kernel_rfl) (fun _ _ _ h => h) (Or.inl ⟨by rfl, ?_⟩) (by assumption) ?_
        rotate_left
        · (intro w0 hSw; (try dsimp only at hSw); go_split_ands; go_simp; with_reducible rfl)
        try simp only [Act.put, List.setIfInBounds_toArray, List.set_cons_zero, List.set_cons_succ]
        refine wpAnyH_take (i := 5) (oi := { dst := some 55, op := Op.move (Operand.tmp 0), type := 71, pos := "ref.go:118", after := #[], guard := none }) (v := ?_) rfl (by kernel_rfl) (by kernel_rfl) (by kernel_rfl) (fun _ _ _ h => h) (Or.inl ⟨by rfl, ?_⟩) (by assumption) ?_
        rotate_left
        · (intro w0 hSw; (try dsimp only at hSw); go_split_ands; go_simp; with_reducible rfl)
        try simp only [Act.put, List.setIfInBounds_toArray, List.set_cons_zero, List.set_cons_succ]
        refine wpAnyH_take (i := 6) (oi := { dst := some 56, op := Op.move (Operand.tmp 6), type := 63, pos := "ref.go:118", after := #[], guard := none }) (v := ?_) rfl (by kernel_rfl) (by kernel_rfl) (by kernel_rfl) (fun _ _ _ h => h) (Or.inl ⟨by rfl, ?_⟩) (by assumption) ?_
        rotate_left
        · (intro w0 hSw; (try dsimp only at hSw); go_split_ands; go_simp; with_reducible rfl)
        try simp only [Act.put, List.setIfInBounds_toArray, List.set_cons_zero, List.set_cons_succ]
        refine wpAnyH_ready (rs := [4, 7]) (by kernel_rfl) (by simp) ?_
        refine AllReadyH.cons (o := { dst := some 54, op := Op.load 63 (Operand.tmp 53), type := 63, pos := "ref.go:118", after := #[{ on := 3, ground := Ground.data }], guard := none }) rfl (fun K hK => ?_) (AllReadyH.cons (o := { dst := some 57, op := Op.call { callee := Callee.value (Operand.func 117), args := #[Operand.tmp 55, Operand.tmp 56], argTypes := #[71, 63] }, type := 63, pos := "ref.go:118", after := #[{ on := 5, ground := Ground.data }, { on := 6, ground := Ground.data }], guard := none }) rfl (fun K hK => ?_) AllReadyH.nil)
        · have c1 := rowAt_cell Hd.out.rw 1
          simp only [cellsR] at c1
          go_simp
          refine hK.out _ _ trivial (fun hHeld => ?_)
          clear hK K
          try simp only [Act.put, List.setIfInBounds_toArray, List.set_cons_zero, List.set_cons_succ]
          refine wpAnyH_ready (rs := [7]) (by kernel_rfl) (by simp) ?_
          refine AllReadyH.cons (o := { dst := some 57, op := Op.call { callee := Callee.value (Operand.func 117), args := #[Operand.tmp 55, Operand.tmp 56], argTypes := #[71, 63] }, type := 63, pos := "ref.go:118", after := #[{ on := 5, ground := Ground.data }, { on := 6, ground := Ground.data }], guard := none }) rfl (fun K hK => ?_) AllReadyH.nil
          go_simp
          go_at_call 117
          refine (room_c _ FP q S _ v2 v3 lm lt a6 M c6 (tZ reg v).F Hd.out (by omega) HCAP.out HA.out HSd).mono ?_
          rintro e w2 ⟨S1, k, rfl, hc2, hk2, hs2, hle, hrow, hn, hF, _⟩
          have HC2 := Lib.hid hc2
          have HK2 := Lib.hid hk2
          have HS2 := Lib.hid hs2
          have HROW := Lib.hid hrow
          have HI2 : Hid (w2.ownsRow 0 29 7 (.slice a1 S.n cp1) S.n (insL S.F S.n)) := Lib.hid (by have := hc2.ins; rw [hn, hF] at this; exact this)
          clear hc2 hk2 hs2 hrow
          refine hK.out _ _ trivial (fun hHeld => ?_)
          clear hK K
          try simp only [Act.put, List.setIfInBounds_toArray, List.set_cons_zero, List.set_cons_succ]
          refine wpAnyH_ready (rs := [8]) (by kernel_rfl) (by simp) ?_
          refine AllReadyH.cons (o := { dst := some 58, op := Op.call { callee := Callee.builtin Builtin.append, args := #[Operand.tmp 54, Operand.tmp 57], argTypes := #[63, 63] }, type := 63, pos := "ref.go:118", after := #[{ on := 4, ground := Ground.data }, { on := 7, ground := Ground.data }, { on := 7, ground := Ground.chain }], guard := none }) rfl (fun K hK => ?_) AllReadyH.nil
          obtain ⟨v', w3, hr, ho3, hg3, hl3⟩ := run_append7 w2 63 0 (.slice a1 S.n cp1) S.n _ HI2.out a6 k c6 (tZ reg v).F HS2.out (by omega) (Nat.zero_le _)
          obtain ⟨a3, cp3, rfl, _⟩ := own_form ho3
          have hP3 := HC2.out.apped (by rw [hn, hF]; exact ho3) hg3 hl3 hle
          rw [HROW.out] at hP3
          have HP3 := Lib.hid hP3
          have hrow3 : rowAt w3 q = some (cellsR S1.at0 (.slice a1 S.n cp1) v2 v3 S1.err) := rowAt_of ((hg3.block q (HC2.out.fl q HC2.out.fp) (fun e => HC2.out.p1 e.symm rfl)).trans HC2.out.row)
          have c13 := rowAt_cell hrow3 1
          have f13 := rowAt_frz hrow3 1
          simp only [cellsR] at c13
          clear hrow3 hP3
          refine step_append_run rfl _ _ _ rfl _ _ _ _ rfl rfl hr ?_
          refine hK.out _ _ trivial (fun hHeld => ?_)
          clear hK K
          try simp only [Act.put, List.setIfInBounds_toArray, List.set_cons_zero, List.set_cons_succ]
          refine wpAnyH_take (i := 9) (oi := { dst := some 59, op := Op.nilCheck (Operand.tmp 50), type := 0, pos := "ref.go:118", after := #[{ on := 0, ground := Ground.data }, { on := 0, ground := Ground.phase }, { on := 1, ground := Ground.phase }, { on := 2, ground := Ground.phase }, { on := 3, ground := Ground.phase }, { on := 4, ground := Ground.phase }, { on := 5, ground := Ground.phase }, { on := 6, ground := Ground.phase }, { on := 7, ground := Ground.phase }, { on := 8, ground := Ground.phase }], guard := none }) (v := ?_) rfl (by kernel_rfl) (by kernel_rfl) (by kernel_rfl) (fun _ _ _ h => h) (Or.inl ⟨by rfl, ?_⟩) (by assumption) ?_
          rotate_left
          · (intro w0 hSw; (try dsimp only at hSw); go_split_ands; go_simp; with_reducible rfl)
          try simp only [Act.put, List.setIfInBounds_toArray, List.set_cons_zero, List.set_cons_succ]
          refine wpAnyH_take (i := 10) (oi := { dst := some 60, op := Op.fieldAddr 74 (Operand.tmp 59) 1, type := 0, pos := "ref.go:118", after := #[{ on := 9, ground := Ground.data }, { on := 0, ground := Ground.phase }, { on := 1, ground := Ground.phase }, { on := 2, ground := Ground.phase }, { on := 3, ground := Ground.phase }, { on := 4, ground := Ground.phase }, { on := 5, ground := Ground.phase }, { on := 6, ground := Ground.phase }, { on := 7, ground := Ground.phase }, { on := 8, ground := Ground.phase }], guard := none }) (v := ?_) rfl (by kernel_rfl) (by kernel_rfl) (by kernel_rfl) (fun _ _ _ h => h) (Or.inl ⟨by rfl, ?_⟩) (by assumption) ?_
          rotate_left
          · (intro w0 hSw; (try dsimp only at hSw); go_split_ands; go_simp; with_reducible rfl)
          try simp only [Act.put, List.setIfInBounds_toArray, List.set_cons_zero, List.set_cons_succ]
          refine wpAnyH_ready (rs := [11]) (by kernel_rfl) (by simp) ?_
          refine AllReadyH.cons (o := { dst := none, op := Op.store 63 (Operand.tmp 60) (Operand.tmp 58), type := 0, pos := "ref.go:118", after := #[{ on := 10, ground := Ground.data }, { on := 8, ground := Ground.data }, { on := 8, ground := Ground.chain }, { on := 0, ground := Ground.phase }, { on := 1, ground := Ground.phase }, { on := 2, ground := Ground.phase }, { on := 3, ground := Ground.phase }, { on := 4, ground := Ground.phase }, { on := 5, ground := Ground.phase }, { on := 6, ground := Ground.phase }, { on := 7, ground := Ground.phase }, { on := 8, ground := Ground.phase }], guard := none }) rfl (fun K hK => ?_) AllReadyH.nil
          go_simp
          refine hK.out _ _ trivial (fun hHeld => ?_)
          clear hK K
          try simp only [Act.put, List.setIfInBounds_toArray, List.set_cons_zero, List.set_cons_succ]
          refine wpAnyH_done (by kernel_rfl) ?_ _
          clear hHeld
          go_end0
          exact ⟨rfl, by rw [HMT.out]; exact (HP3.out.after HK2.out).after HKd.out⟩
        · go_simp
          go_at_call 117
          refine (room_c _ FP q S _ v2 v3 lm lt a6 M c6 (tZ reg v).F Hd.out (by omega) HCAP.out HA.out HSd).mono ?_
          rintro e w2 ⟨S1, k, rfl, hc2, hk2, hs2, hle, hrow, hn, hF, _⟩
          have HC2 := Lib.hid hc2
          have HK2 := Lib.hid hk2
          have HS2 := Lib.hid hs2
          have HROW := Lib.hid hrow
          have HI2 : Hid (w2.ownsRow 0 29 7 (.slice a1 S.n cp1) S.n (insL S.F S.n)) := Lib.hid (by have := hc2.ins; rw [hn, hF] at this; exact this)
          clear hc2 hk2 hs2 hrow
          refine hK.out _ _ trivial (fun hHeld => ?_)
          clear hK K
          try simp only [Act.put, List.setIfInBounds_toArray, List.set_cons_zero, List.set_cons_succ]
          refine wpAnyH_ready (rs := [4]) (by kernel_rfl) (by simp) ?_
          refine AllReadyH.cons (o := { dst := some 54, op := Op.load 63 (Operand.tmp 53), type := 63, pos := "ref.go:118", after := #[{ on := 3, ground := Ground.data }], guard := none }) rfl (fun K hK => ?_) AllReadyH.nil
          have c1 := rowAt_cell HC2.out.rw 1
          simp only [cellsR] at c1
          go_simp
          refine hK.out _ _ trivial (fun hHeld => ?_)
          clear hK K
          try simp only [Act.put, List.setIfInBounds_toArray, List.set_cons_zero, List.set_cons_succ]
          refine wpAnyH_ready (rs := [8]) (by kernel_rfl) (by simp) ?_
          refine AllReadyH.cons (o := { dst := some 58, op := Op.call { callee := Callee.builtin Builtin.append, args := #[Operand.tmp 54, Operand.tmp 57], argTypes := #[63, 63] }, type := 63, pos := "ref.go:118", after := #[{ on := 4, ground := Ground.data }, { on := 7, ground := Ground.data }, { on := 7, ground := Ground.chain }], guard := none }) rfl (fun K hK => ?_) AllReadyH.nil
          obtain ⟨v', w3, hr, ho3, hg3, hl3⟩ := run_append7 w2 63 0 (.slice a1 S.n cp1) S.n _ HI2.out a6 k c6 (tZ reg v).F HS2.out (by omega) (Nat.zero_le _)
          obtain ⟨a3, cp3, rfl, _⟩ := own_form ho3
          have hP3 := HC2.out.apped (by rw [hn, hF]; exact ho3) hg3 hl3 hle
          rw [HROW.out] at hP3
          have HP3 := Lib.hid hP3
          have hrow3 : rowAt w3 q = some (cellsR S1.at0 (.slice a1 S.n cp1) v2 v3 S1.err) := rowAt_of ((hg3.block q (HC2.out.fl q HC2.out.fp) (fun e => HC2.out.p1 e.symm rfl)).trans HC2.out.row)
          have c13 := rowAt_cell hrow3 1
          have f13 := rowAt_frz hrow3 1
          simp only [cellsR] at c13
          clear hrow3 hP3
          refine step_append_run rfl _ _ _ rfl _ _ _ _ rfl rfl hr ?_
          refine hK.out _ _ trivial (fun hHeld => ?_)
          clear hK K
          try simp only [Act.put, List.setIfInBounds_toArray, List.set_cons_zero, List.set_cons_succ]
          refine wpAnyH_take (i := 9) (oi := { dst := some 59, op := Op.nilCheck (Operand.tmp 50), type := 0, pos := "ref.go:118", after := #[{ on := 0, ground := Ground.data }, { on := 0, ground := Ground.phase }, { on := 1, ground := Ground.phase }, { on := 2, ground := Ground.phase }, { on := 3, ground := Ground.phase }, { on := 4, ground := Ground.phase }, { on := 5, ground := Ground.phase }, { on := 6, ground := Ground.phase }, { on := 7, ground := Ground.phase }, { on := 8, ground := Ground.phase }], guard := none }) (v := ?_) rfl (by kernel_rfl) (by kernel_rfl) (by kernel_rfl) (fun _ _ _ h => h) (Or.inl ⟨by rfl, ?_⟩) (by assumption) ?_
          rotate_left
          · (intro w0 hSw; (try dsimp only at hSw); go_split_ands; go_simp; with_reducible rfl)
          try simp only [Act.put, List.setIfInBounds_toArray, List.set_cons_zero, List.set_cons_succ]
          refine wpAnyH_take (i := 10) (oi := { dst := some 60, op := Op.fieldAddr 74 (Operand.tmp 59) 1, type := 0, pos := "ref.go:118", after := #[{ on := 9, ground := Ground.data }, { on := 0, ground := Ground.phase }, { on := 1, ground := Ground.phase }, { on := 2, ground := Ground.phase }, { on := 3, ground := Ground.phase }, { on := 4, ground := Ground.phase }, { on := 5, ground := Ground.phase }, { on := 6, ground := Ground.phase }, { on := 7, ground := Ground.phase }, { on := 8, ground := Ground.phase }], guard := none }) (v := ?_) rfl (by kernel_rfl) (by kernel_rfl) (by kernel_rfl) (fun _ _ _ h => h) (Or.inl ⟨by rfl, ?_⟩) (by assumption) ?_
          rotate_left
          · (intro w0 hSw; (try dsimp only at hSw); go_split_ands; go_simp; with_reducible rfl)
          try simp only [Act.put, List.setIfInBounds_toArray, List.set_cons_zero, List.set_cons_succ]
          refine wpAnyH_ready (rs := [11]) (by kernel_rfl) (by simp) ?_
          refine AllReadyH.cons (o := { dst := none, op := Op.store 63 (Operand.tmp 60) (Operand.tmp 58), type := 0, pos := "ref.go:118", after := #[{ on := 10, ground := Ground.data }, { on := 8, ground := Ground.data }, { on := 8, ground := Ground.chain }, { on := 0, ground := Ground.phase }, { on := 1, ground := Ground.phase }, { on := 2, ground := Ground.phase }, { on := 3, ground := Ground.phase }, { on := 4, ground := Ground.phase }, { on := 5, ground := Ground.phase }, { on := 6, ground := Ground.phase }, { on := 7, ground := Ground.phase }, { on := 8, ground := Ground.phase }], guard := none }) rfl (fun K hK => ?_) AllReadyH.nil
          go_simp
          refine hK.out _ _ trivial (fun hHeld => ?_)
          clear hK K
          try simp only [Act.put, List.setIfInBounds_toArray, List.set_cons_zero, List.set_cons_succ]
          refine wpAnyH_done (by kernel_rfl) ?_ _
          clear hHeld
          go_end0
          exact ⟨rfl, by rw [HMT.out]; exact (HP3.out.after HK2.out).after HKd.out⟩
end Go.Proofs.Ytnbpgoacooddjaa.Lab
namespace Go.Proofs.Ytnbpgoacooddjaa.Lab
open Go.ChangeShapes Go.WideShapes Go.ChangeAt Go.RowKit Go.Maps Go.Deep
open Go.Proofs.Ytnbpgoacooddjaa.En
set_option linter.unusedVariables false
attribute [local go_sem] rowAt_drew rowAt_drewN
/-- Where the jumps stand: at places of their own. -/
structure Jps (S : Lb) (ak : Nat → Nat) : Prop where
  pl : ∀ k, k < S.jn → S.pl k = (ak k : Int) ∧ ak k < S.n ∧ (S.nm k).size ≤ maxLen
  lt : ∀ i k, i < k → k < S.jn → ak i < ak k
theorem landF_other (S : Lb) (ak tk : Nat → Nat) (j : Nat) : ∀ k, (∀ i, i < k → ak i ≠ j) → landF S ak tk k j = S.F j
  | 0, _ => rfl
  | k + 1, h => by
    show setI (landF S ak tk k) (ak k) _ j = _
    unfold setI
    rw [if_neg (fun e => h k (by omega) e.symm)]
    exact landF_other S ak tk j k fun i hi => h i (by omega)
theorem landF_at (S : Lb) (ak tk : Nat → Nat) (i : Nat) : ∀ k, i < k → (∀ j, i < j → j < k → ak i < ak j) → landF S ak tk k (ak i) = landF S ak tk (i + 1) (ak i)
  | 0, h, _ => absurd h (Nat.not_lt_zero _)
  | k + 1, h, hl => by
    by_cases e : i = k
    · rw [e]
    · have h1 : ak i < ak k := hl k (by omega) (by omega)
      show setI (landF S ak tk k) (ak k) _ (ak i) = _
      unfold setI
      rw [if_neg (by omega)]
      exact landF_at S ak tk i k (by omega) fun j hj hk => hl j hj (by omega)
theorem good_land (S : Lb) (ak tk : Nat → Nat) (h : Jps S ak) (hg : good S.F S.n) : good (landF S ak tk S.jn) S.n ↔ ∀ i, i < S.jn → (landF S ak tk (i + 1) (ak i)).e = 0 := by
  constructor
  · intro hh i hi
    rw [← landF_at S ak tk i S.jn hi fun j h1 h2 => h.lt i j h1 h2]
    exact hh _ (h.pl i hi).2.1
  · intro hh j hj
    by_cases he : ∃ i, i < S.jn ∧ ak i = j
    · obtain ⟨i, hi, rfl⟩ := he
      rw [landF_at S ak tk i S.jn hi fun j h1 h2 => h.lt i j h1 h2]
      exact hh i hi
    · rw [landF_other S ak tk j S.jn fun i hi e => he ⟨i, hi, e⟩]
      exact hg j hj
set_option maxRecDepth 100000 in
set_option maxHeartbeats 8000000 in
theorem words_err (w : World) (FP : Nat → Prop) (p : Nat) (S : Lb) (mb : Nat) (v1 v3 : Value) (bx bY bz : Nat → Nat) (h : LbC w FP p S mb v1 v3 bx bY bz) (he : ¬ S.err = 0) :
    Calls Try.prog 22 #[.pointer (some ⟨p, 0, none⟩)] w fun e w' => e = .returned (.tuple #[.slice none 0 0, .int .i64 S.err]) ∧ Below w.heap.size w w' := by
  have c4 := rowAt_cell h.rw 4
  simp only [cellsL] at c4
  have d4 : w.drew.cell? ⟨p, 4, none⟩ = some (.int .i64 S.err) := c4
  have hne : (S.err != 0) = true := by simpa using he
  clear h
  go_enter Try.func22, Try.ntmps22
  go_upto_region 2 with (fail)
  refine wp_region_held_drew (S := fun w' => w'.cell? ⟨p, 4, none⟩ = some (.int .i64 S.err)) (by kernel_rfl) d4 (fun hHeld => ?_)
  refine wpAnyH_take (i := 0) (oi := { dst := some 15, op := Op.move (Operand.tmp 0), type := 43, pos := "lab.go:115", after := #[{ on := 4, ground := Ground.gcOnly Go.Departure.lateStores }], guard := none }) (v := ?_) rfl (by kernel_rfl) (by kernel_rfl) (by kernel_rfl) (fun _ _ _ h => h) (Or.inl ⟨by rfl, ?_⟩) (by assumption) ?_
  rotate_left
  · (intro w0 hSw; (try dsimp only at hSw); go_split_ands; go_simp; with_reducible rfl)
  try simp only [Act.put, List.setIfInBounds_toArray, List.set_cons_zero, List.set_cons_succ]
  refine wpAnyH_take (i := 1) (oi := { dst := some 16, op := Op.nilCheck (Operand.tmp 15), type := 0, pos := "lab.go:115", after := #[{ on := 0, ground := Ground.data }, { on := 4, ground := Ground.gcOnly Go.Departure.lateStores }], guard := none }) (v := ?_) rfl (by kernel_rfl) (by kernel_rfl) (by kernel_rfl) (fun _ _ _ h => h) (Or.inl ⟨by rfl, ?_⟩) (by assumption) ?_
  rotate_left
  · (intro w0 hSw; (try dsimp only at hSw); go_split_ands; go_simp; with_reducible rfl)
  try simp only [Act.put, List.setIfInBounds_toArray, List.set_cons_zero, List.set_cons_succ]
  refine wpAnyH_take (i := 2) (oi := { dst := some 17, op := Op.fieldAddr 149 (Operand.tmp 16) 4, type := 0, pos := "lab.go:115", after := #[{ on := 1, ground := Ground.data }, { on := 4, ground := Ground.gcOnly Go.Departure.lateStores }], guard := none }) (v := ?_) rfl (by kernel_rfl) (by kernel_rfl) (by kernel_rfl) (fun _ _ _ h => h) (Or.inl ⟨by rfl, ?_⟩) (by assumption) ?_
  rotate_left
  · (intro w0 hSw; (try dsimp only at hSw); go_split_ands; go_simp; with_reducible rfl)
  try simp only [Act.put, List.setIfInBounds_toArray, List.set_cons_zero, List.set_cons_succ]
  refine wpAnyH_take (i := 3) (oi := { dst := some 18, op := Op.load 32 (Operand.tmp 17), type := 32, pos := "lab.go:115", after := #[{ on := 2, ground := Ground.data }, { on := 4, ground := Ground.gcOnly Go.Departure.lateStores }], guard := none }) (v := ?_) rfl (by kernel_rfl) (by kernel_rfl) (by kernel_rfl) (fun _ _ _ h => h) (Or.inl ⟨by rfl, ?_⟩) (by assumption) ?_
  rotate_left
  · (intro w0 hSw; (try dsimp only at hSw); go_split_ands; go_simp; with_reducible rfl)
  try simp only [Act.put, List.setIfInBounds_toArray, List.set_cons_zero, List.set_cons_succ]
  refine wpAnyH_take (i := 4) (oi := { dst := some 2, op := Op.assign (Operand.const (Value.slice none 0 0)), type := 46, pos := "lab.go:115", after := #[{ on := 0, ground := Ground.textOnly Go.Departure.lateStores }, { on := 1, ground := Ground.textOnly Go.Departure.lateStores }, { on := 2, ground := Ground.textOnly Go.Departure.lateStores }, { on := 3, ground := Ground.textOnly Go.Departure.lateStores }], guard := none }) (v := ?_) rfl (by kernel_rfl) (by kernel_rfl) (by kernel_rfl) (fun _ _ _ h => h) (Or.inl ⟨by rfl, ?_⟩) (by assumption) ?_
  rotate_left
  · (intro w0 hSw; (try dsimp only at hSw); go_split_ands; go_simp; with_reducible rfl)
  try simp only [Act.put, List.setIfInBounds_toArray, List.set_cons_zero, List.set_cons_succ]
  refine wpAnyH_take (i := 5) (oi := { dst := some 3, op := Op.assign (Operand.tmp 18), type := 32, pos := "lab.go:115", after := #[{ on := 3, ground := Ground.data }, { on := 4, ground := Ground.chain }, { on := 0, ground := Ground.phase }, { on := 1, ground := Ground.phase }, { on := 2, ground := Ground.phase }, { on := 3, ground := Ground.phase }, { on := 4, ground := Ground.phase }], guard := none }) (v := ?_) rfl (by kernel_rfl) (by kernel_rfl) (by kernel_rfl) (fun _ _ _ h => h) (Or.inl ⟨by rfl, ?_⟩) (by assumption) ?_
  rotate_left
  · (intro w0 hSw; (try dsimp only at hSw); go_split_ands; go_simp; with_reducible rfl)
  try simp only [Act.put, List.setIfInBounds_toArray, List.set_cons_zero, List.set_cons_succ]
  refine wpAnyH_done (by kernel_rfl) ?_ _
  clear hHeld
  go_wp2
  go_ret2
  exact ⟨rfl, (Below.refl _ _).drew⟩
set_option maxRecDepth 100000 in
set_option maxHeartbeats 8000000 in
theorem words_miss (w : World) (FP : Nat → Prop) (p : Nat) (S : Lb) (mb : Nat) (v1 v3 : Value) (bx bY bz : Nat → Nat) (h : LbC w FP p S mb v1 v3 bx bY bz) (he : S.err = 0) (ak tk : Nat → Nat) (m0 : Nat) (hm0 : m0 < S.jn) (hjn : S.jn ≤ 1000000) (hmiss : Maps.has S.D (ky (S.nm m0)) = false) (hms : (S.nm m0).size ≤ maxLen)
    (hj : ∀ k, k < m0 → S.pl k = (ak k : Int) ∧ ak k < S.n ∧ (S.nm k).size ≤ maxLen ∧ Maps.has S.D (ky (S.nm k)) = true ∧ S.D.atKey (ky (S.nm k)) (.lit (.int .i64 0)) = .lit (.int .i64 (tk k : Int)) ∧ tk k ≤ 65536) :
    Calls Try.prog 22 #[.pointer (some ⟨p, 0, none⟩)] w fun e w' => e = .returned (.tuple #[.slice none 0 0, .int .i64 24]) ∧ Below w.heap.size w w' := by
  have H := Lib.hid h
  have HJ := Lib.hid hj
  have HMISS := Lib.hid hmiss
  have hfl := h.fl
  have hnl := h.nl
  obtain ⟨a1, cp1, rfl, _⟩ := own_form h.ins
  obtain ⟨a3, cp3, rfl, _⟩ := own_form h.jmp
  have c1 := rowAt_cell h.rw 1
  have c4 := rowAt_cell h.rw 4
  simp only [cellsL, he] at c1 c4
  have HCL := Lib.hid (clone_c w a1 S.n cp1 S.F h.ins (by omega))
  clear h hj hmiss
  go_enter Try.func22, Try.ntmps22
  go_wp2_with (go_at_call 81; refine HCL.out.mono ?_; rintro e w1 ⟨⟨v', rfl, ho1⟩, hb1⟩; obtain ⟨av, cv, rfl, _⟩ := own_form ho1; have hc1 := H.out.past hb1; have c31 := rowAt_cell hc1.rw 3; simp only [cellsL] at c31; have HI : Hid (WdI w FP p S mb _ _ bx bY bz (.slice av S.n cv) (landF S ak tk 0) w1) := Lib.hid ⟨hc1, ho1, hb1⟩; clear hc1 ho1 hb1)
  clear HCL c1 c4
  go_loopw [29] (fun s29 W => ∃ k : Nat, k ≤ m0 ∧ s29 = .int .i64 k ∧ Hid (WdI w FP p S mb (.slice a1 S.n cp1) (.slice a3 S.jn cp3) bx bY bz (.slice av S.n cv) (landF S ak tk k) W)) (fun s29 _ => S.jn - (intOf s29).toNat)
  case atStart => exact ⟨0, Nat.zero_le _, rfl, HI⟩
  case round =>
    obtain ⟨k, hk, rfl, HIk⟩ := hrel
    have hkj : k < S.jn := by omega
    obtain ⟨g3, cap3, hv3, _, _⟩ := HIk.out.lb.jmp.form (by omega)
    injection hv3 with e1 e2 e3
    subst e1 e3
    have cJ := (own_cells HIk.out.lb.jmp).1 k _ (jmpL_get bx bY bz S.jn k hkj)
    obtain ⟨bb1, bb2, bb3, _⟩ := HIk.out.lb.box k hkj
    have cX : wr.drew.cell? ⟨bx k, 0, none⟩ = some (.pointer (some ⟨p, 0, none⟩)) := bb1.cell
    have cY : wr.drew.cell? ⟨bY k, 0, none⟩ = some (.string (S.nm k)) := bb2.cell
    have c2 : wr.drew.cell? ⟨p, 2, none⟩ = some (.map (some mb)) := rowAt_cell HIk.out.lb.rw 2
    have hm : wr.drew.ownsMap Try.prog 9 (plainElem (H := Unit) Try.prog 3) mb S.cnt S.D := HIk.out.lb.map
    simp only [jmpV] at cJ
    by_cases hlt : k < m0
    · obtain ⟨hpl, han, hs, hh, ha, ht⟩ := HJ.out k hlt
      obtain ⟨g, cap', hv, hgb, hgl⟩ := HIk.out.row.form (by omega)
      injection hv with e1 e2 e3
      subst e1 e3
      rw [hpl] at bb3
      have cZ : wr.drew.cell? ⟨bz k, 0, none⟩ = some (.int .i64 (ak k : Int)) := bb3.cell
      have cg : (wr.drew.cell? ⟨g, ak k * 7 + 6, none⟩).isSome = true := by
        have h6 := insL_at (landF S ak tk k) (ak k) 6 (by decide) S.n han
        have := (own_cells HIk.out.row).1 _ _ h6
        show (wr.cell? ⟨g, ak k * 7 + 6, none⟩).isSome = true
        rw [this]; rfl
      have fg : wr.drew.frozen? ⟨g, ak k * 7 + 6, none⟩ = false := (own_cells HIk.out.row).2 _
      have HL := Lib.hid (land_y wr (bx k) (bY k) (bz k) p mb S.cnt g S.n cv (ak k) (tk k : Int) (S.nm k) S.D cX c2 cY cZ hm hs hh ha (by omega) han (by omega) cg fg)
      have HN := Lib.hid (HIk.out.step (x := 4 * ((tk k : Int) - ak k)) hfl hgb han)
      clear cX cY cZ c2 hm cg fg bb1 bb2 bb3 hs hh ha hpl
      go_wp2_with (go_at_call 107; refine HL.out.mono ?_; rintro e w2 ⟨rfl, rfl⟩)
      go_roundw
      case rel => exact ⟨k + 1, by omega, by go_num, HN⟩
      case measure => simp [intOf]; omega
    · obtain rfl : k = m0 := by omega
      have HL := Lib.hid (land_n wr (bx k) (bY k) (bz k) p mb S.cnt (.slice av S.n cv) 0 (S.nm k) S.D cX c2 cY hm hms HMISS.out (atKey_of_not_has HMISS.out _))
      have HBL : Hid (Below w.heap.size w wr.drew) := Lib.hid HIk.out.bl.drew
      clear cX cY c2 hm bb1 bb2 bb3
      go_wp2_with (go_at_call 107; refine HL.out.mono ?_; rintro e w2 ⟨rfl, rfl⟩)
      go_ret2
      exact ⟨rfl, HBL.out⟩
set_option maxRecDepth 100000 in
set_option maxHeartbeats 8000000 in
theorem rwords_err (w : World) (FP : Nat → Prop) (q : Nat) (S : Lb) (v1 v2 v3 : Value) (lm : Nat → ByteArray) (lt : Nat → Nat) (h : RfC w FP q S v1 v2 v3 lm lt) (he : ¬ S.err = 0) :
    Calls Try.prog 41 #[.pointer (some ⟨q, 0, none⟩)] w fun e w' => e = .returned (.tuple #[.slice none 0 0, .int .i64 S.err]) ∧ Below w.heap.size w w' := by
  have c4 := rowAt_cell h.rw 4
  simp only [cellsR] at c4
  have d4 : w.drew.cell? ⟨q, 4, none⟩ = some (.int .i64 S.err) := c4
  have hne : (S.err != 0) = true := by simpa using he
  clear h
  go_enter Try.func41, Try.ntmps41
  go_upto_region 2 with (fail)
  refine wp_region_held_drew (S := fun w' => w'.cell? ⟨q, 4, none⟩ = some (.int .i64 S.err)) (by kernel_rfl) d4 (fun hHeld => ?_)
  refine wpAnyH_take (i := 0) (oi := { dst := some 17, op := Op.move (Operand.tmp 0), type := 71, pos := "ref.go:136", after := #[{ on := 4, ground := Ground.gcOnly Go.Departure.lateStores }], guard := none }) (v := ?_) rfl (by kernel_rfl) (by kernel_rfl) (by kernel_rfl) (fun _ _ _ h => h) (Or.inl ⟨by rfl, ?_⟩) (by assumption) ?_
  rotate_left
  · (intro w0 hSw; (try dsimp only at hSw); go_split_ands; go_simp; with_reducible rfl)
  try simp only [Act.put, List.setIfInBounds_toArray, List.set_cons_zero, List.set_cons_succ]
  refine wpAnyH_take (i := 1) (oi := { dst := some 18, op := Op.nilCheck (Operand.tmp 17), type := 0, pos := "ref.go:136", after := #[{ on := 0, ground := Ground.data }, { on := 4, ground := Ground.gcOnly Go.Departure.lateStores }], guard := none }) (v := ?_) rfl (by kernel_rfl) (by kernel_rfl) (by kernel_rfl) (fun _ _ _ h => h) (Or.inl ⟨by rfl, ?_⟩) (by assumption) ?_
  rotate_left
  · (intro w0 hSw; (try dsimp only at hSw); go_split_ands; go_simp; with_reducible rfl)
  try simp only [Act.put, List.setIfInBounds_toArray, List.set_cons_zero, List.set_cons_succ]
  refine wpAnyH_take (i := 2) (oi := { dst := some 19, op := Op.fieldAddr 74 (Operand.tmp 18) 4, type := 0, pos := "ref.go:136", after := #[{ on := 1, ground := Ground.data }, { on := 4, ground := Ground.gcOnly Go.Departure.lateStores }], guard := none }) (v := ?_) rfl (by kernel_rfl) (by kernel_rfl) (by kernel_rfl) (fun _ _ _ h => h) (Or.inl ⟨by rfl, ?_⟩) (by assumption) ?_
  rotate_left
  · (intro w0 hSw; (try dsimp only at hSw); go_split_ands; go_simp; with_reducible rfl)
  try simp only [Act.put, List.setIfInBounds_toArray, List.set_cons_zero, List.set_cons_succ]
  refine wpAnyH_take (i := 3) (oi := { dst := some 20, op := Op.load 3 (Operand.tmp 19), type := 3, pos := "ref.go:136", after := #[{ on := 2, ground := Ground.data }, { on := 4, ground := Ground.gcOnly Go.Departure.lateStores }], guard := none }) (v := ?_) rfl (by kernel_rfl) (by kernel_rfl) (by kernel_rfl) (fun _ _ _ h => h) (Or.inl ⟨by rfl, ?_⟩) (by assumption) ?_
  rotate_left
  · (intro w0 hSw; (try dsimp only at hSw); go_split_ands; go_simp; with_reducible rfl)
  try simp only [Act.put, List.setIfInBounds_toArray, List.set_cons_zero, List.set_cons_succ]
  refine wpAnyH_take (i := 4) (oi := { dst := some 2, op := Op.assign (Operand.const (Value.slice none 0 0)), type := 46, pos := "ref.go:136", after := #[{ on := 0, ground := Ground.textOnly Go.Departure.lateStores }, { on := 1, ground := Ground.textOnly Go.Departure.lateStores }, { on := 2, ground := Ground.textOnly Go.Departure.lateStores }, { on := 3, ground := Ground.textOnly Go.Departure.lateStores }], guard := none }) (v := ?_) rfl (by kernel_rfl) (by kernel_rfl) (by kernel_rfl) (fun _ _ _ h => h) (Or.inl ⟨by rfl, ?_⟩) (by assumption) ?_
  rotate_left
  · (intro w0 hSw; (try dsimp only at hSw); go_split_ands; go_simp; with_reducible rfl)
  try simp only [Act.put, List.setIfInBounds_toArray, List.set_cons_zero, List.set_cons_succ]
  refine wpAnyH_take (i := 5) (oi := { dst := some 3, op := Op.assign (Operand.tmp 20), type := 3, pos := "ref.go:136", after := #[{ on := 3, ground := Ground.data }, { on := 4, ground := Ground.chain }, { on := 0, ground := Ground.phase }, { on := 1, ground := Ground.phase }, { on := 2, ground := Ground.phase }, { on := 3, ground := Ground.phase }, { on := 4, ground := Ground.phase }], guard := none }) (v := ?_) rfl (by kernel_rfl) (by kernel_rfl) (by kernel_rfl) (fun _ _ _ h => h) (Or.inl ⟨by rfl, ?_⟩) (by assumption) ?_
  rotate_left
  · (intro w0 hSw; (try dsimp only at hSw); go_split_ands; go_simp; with_reducible rfl)
  try simp only [Act.put, List.setIfInBounds_toArray, List.set_cons_zero, List.set_cons_succ]
  refine wpAnyH_done (by kernel_rfl) ?_ _
  clear hHeld
  go_wp2
  go_ret2
  exact ⟨rfl, (Below.refl _ _).drew⟩
end Go.Proofs.Ytnbpgoacooddjaa.Lab
