import Derived.Test.YtnbpgoacooddjaaLi
namespace Go.Proofs.Ytnbpgoacooddjaa.Lab
open Go.ChangeShapes Go.WideShapes Go.ChangeAt Go.RowKit Go.Maps
open Go.Proofs.Ytnbpgoacooddjaa.En
set_option linter.unusedVariables false
attribute [local go_sem] rowAt_drew rowAt_drewN
/-- Code that lies above B, whatever has been made of it since w0. -/
def LbB (B : Nat) (w0 w : World) (p : Nat) (S : Lb) : Prop :=
  ∃ (FP : Nat → Prop) (mb : Nat) (v1 v3 : Value) (bx bY bz : Nat → Nat), LbC w FP p S mb v1 v3 bx bY bz ∧ (∀ k, FP k → B ≤ k) ∧ B ≤ w.heap.size ∧ Below B w0 w
theorem LbB.past {B : Nat} {w0 w w' : World} {p : Nat} {S : Lb} (h : LbB B w0 w p S) (hb : Below w.heap.size w w') : LbB B w0 w' p S := by
  obtain ⟨FP, mb, v1, v3, bx, bY, bz, h1, h2, h3, h4⟩ := h
  exact ⟨FP, mb, v1, v3, bx, bY, bz, h1.past hb, h2, Nat.le_trans h3 hb.size, h4.trans (hb.mono h3)⟩
theorem LbB.bl {B : Nat} {w0 w : World} {p : Nat} {S : Lb} (h : LbB B w0 w p S) : Below B w0 w := by
  obtain ⟨FP, mb, v1, v3, bx, bY, bz, h1, h2, h3, h4⟩ := h
  exact h4
theorem LbB.sz {B : Nat} {w0 w : World} {p : Nat} {S : Lb} (h : LbB B w0 w p S) : B ≤ w.heap.size := by
  obtain ⟨FP, mb, v1, v3, bx, bY, bz, h1, h2, h3, h4⟩ := h
  exact h3
theorem LbB.of_q {B : Nat} {w0 w w' : World} {FP : Nat → Prop} {p : Nat} {S' : Lb} (hq : LbQ w FP p S' w') (h2 : ∀ k, FP k → B ≤ k) (h3 : B ≤ w.heap.size) (h4 : Below B w0 w) : LbB B w0 w' p S' := by
  obtain ⟨FP', mb, v1, v3, bx, bY, bz, g1, g2, g3, g4⟩ := hq
  exact ⟨FP', mb, v1, v3, bx, bY, bz, g1, fun k hf => by
    rcases g2 k hf with h | h
    · exact h2 k h
    · omega, Nat.le_trans h3 g4.size, h4.trans (g4.below h3 h2)⟩
theorem new_b (at0 : Int) (w : World) : Calls Try.prog 20 #[.int .u64 at0] w fun e w' => e = .returned (.pointer (some ⟨w.heap.size + 1, 0, none⟩)) ∧ LbB w.heap.size w w' (w.heap.size + 1) (Lb.new at0) :=
  (new_c at0 w).mono fun e w' hh => ⟨hh.1, _, _, _, _, _, _, _, hh.2.1, fun k hk => hk.1, hh.2.2.size, hh.2.2⟩
theorem put_b {B : Nat} {w0 w : World} {p : Nat} {S : Lb} (h : LbB B w0 w p S) (A : Option Addr) (m cap : Nat) (G : Nat → In) (hm : S.n + m ≤ 65536) (HS : Hid (SrcI w A m G)) (hb : good G m) :
    Calls Try.prog 29 #[.pointer (some ⟨p, 0, none⟩), .slice A m cap] w fun e w' => e = .returned (.tuple #[]) ∧ LbB B w0 w' p (S.app G m) := by
  obtain ⟨FP, mb, v1, v3, bx, bY, bz, h1, h2, h3, h4⟩ := h
  exact (put_y w FP p S mb v1 v3 bx bY bz A m cap G h1 hm HS hb).mono fun e w' hh => ⟨hh.1, LbB.of_q hh.2.q h2 h3 h4⟩
theorem label_b {B : Nat} {w0 w : World} {p : Nat} {S : Lb} (h : LbB B w0 w p S) (s : ByteArray) (hs : s.size ≤ maxLen) (hcn : S.cnt < 1000000) (hno : Maps.has S.D (ky s) = false) :
    Calls Try.prog 26 #[.pointer (some ⟨p, 0, none⟩), .string s] w fun e w' => e = .returned (.tuple #[]) ∧ LbB B w0 w' p (S.lab s) := by
  obtain ⟨FP, mb, v1, v3, bx, bY, bz, h1, h2, h3, h4⟩ := h
  exact (label_y w FP p S mb v1 v3 bx bY bz s hs h1 hcn hno).mono fun e w' hh => ⟨hh.1, FP, mb, v1, v3, bx, bY, bz, hh.2.1, h2, Nat.le_trans h3 hh.2.2.size, h4.trans (hh.2.2.below h3 h2)⟩
theorem jump_b {B : Nat} {w0 w : World} {p : Nat} {S : Lb} (h : LbB B w0 w p S) (x : In) (s : ByteArray) (hj : jumpB x.op = true) (hx : (zIn x).e = 0) (hn : S.n < 65536) (hjn : S.jn < 1000000) :
    Calls Try.prog 28 #[.pointer (some ⟨p, 0, none⟩), x.v, .string s] w fun e w' => e = .returned (.tuple #[]) ∧ LbB B w0 w' p (S.jump x s) := by
  obtain ⟨FP, mb, v1, v3, bx, bY, bz, h1, h2, h3, h4⟩ := h
  exact (jump_y w FP p S mb v1 v3 bx bY bz x s h1 hj hx hn hjn).mono fun e w' hh => ⟨hh.1, LbB.of_q hh.2 h2 h3 h4⟩
theorem here_b {B : Nat} {w0 w : World} {p : Nat} {S : Lb} (h : LbB B w0 w p S) : Calls Try.prog 27 #[.pointer (some ⟨p, 0, none⟩)] w fun e w' => e = .returned (.int .u64 (placeS S.at0 S.n)) ∧ w = w' := by
  obtain ⟨FP, mb, v1, v3, bx, bY, bz, h1, h2, h3, h4⟩ := h
  exact here_c w FP p S mb v1 v3 bx bY bz h1
theorem len_b {B : Nat} {w0 w : World} {p : Nat} {S : Lb} (h : LbB B w0 w p S) : Calls Try.prog 32 #[.pointer (some ⟨p, 0, none⟩)] w fun e w' => e = .returned (.int .i64 S.n) ∧ w = w' := by
  obtain ⟨FP, mb, v1, v3, bx, bY, bz, h1, h2, h3, h4⟩ := h
  exact len_c w FP p S mb v1 v3 bx bY bz h1
theorem where_b {B : Nat} {w0 w : World} {p : Nat} {S : Lb} (h : LbB B w0 w p S) (s : ByteArray) (hs : s.size ≤ maxLen) (hno : Maps.has S.D (ky s) = true) (k : Nat) (hk : k ≤ 1000000) (hat0 : S.D.atKey (ky s) (.lit (.int .i64 0)) = .lit (.int .i64 (k : Int))) :
    Calls Try.prog 30 #[.pointer (some ⟨p, 0, none⟩), .string s] w fun e w' => e = .returned (.tuple #[.int .u64 (placeS S.at0 k), .bool true]) ∧ w = w' := by
  obtain ⟨FP, mb, v1, v3, bx, bY, bz, h1, h2, h3, h4⟩ := h
  exact where_y w FP p S mb v1 v3 bx bY bz s hs h1 hno k hk hat0
/-- All jumps land at right instructions: the words of all. -/
theorem words_b {B : Nat} {w0 w : World} {p : Nat} {S : Lb} (h : LbB B w0 w p S) (he : S.err = 0) (ak tk : Nat → Nat) (hjn : S.jn ≤ 1000000)
    (hj : ∀ k, k < S.jn → S.pl k = (ak k : Int) ∧ ak k < S.n ∧ (S.nm k).size ≤ maxLen ∧ Maps.has S.D (ky (S.nm k)) = true ∧ S.D.atKey (ky (S.nm k)) (.lit (.int .i64 0)) = .lit (.int .i64 (tk k : Int)) ∧ tk k ≤ 65536) (hg : good (landF S ak tk S.jn) S.n) :
    Calls Try.prog 22 #[.pointer (some ⟨p, 0, none⟩)] w fun e w' => ∃ g, e = .returned (.tuple #[.slice (some ⟨g, 0, none⟩) S.n S.n, .int .i64 0]) ∧ w.heap.size ≤ g ∧ w'.ownsRow 0 54 1 (.slice (some ⟨g, 0, none⟩) S.n S.n) S.n (ws (landF S ak tk S.jn) S.n) ∧ Below w.heap.size w w' := by
  obtain ⟨FP, mb, v1, v3, bx, bY, bz, h1, h2, h3, h4⟩ := h
  refine (words_y w FP p S mb v1 v3 bx bY bz h1 he ak tk hjn hj).mono fun e w' hh => ?_
  rcases hh.1 with ⟨g, _, h5, h6, h7⟩ | ⟨h5, _⟩
  · exact ⟨g, h5, h6, h7, hh.2⟩
  · exact absurd hg h5
/-- One instruction that is built in place. -/
theorem one_src (x : In) (w : World) : SrcI (w.alloc (.cells #[.int .i64 x.op, .int .i64 x.d, .int .i64 x.n, .int .i64 x.m, .int .i64 x.a, .int .i64 x.c, .int .i64 x.i] 29)) (some ⟨w.heap.size, 0, none⟩) 1 (fun _ => x) := by
  have hb := rowAt_new w #[.int .i64 x.op, .int .i64 x.d, .int .i64 x.n, .int .i64 x.m, .int .i64 x.a, .int .i64 x.c, .int .i64 x.i] 29
  refine .inr ⟨w.heap.size, 0, rfl, rowAt_lt hb, fun k hk => ?_⟩
  obtain rfl : k = 0 := by omega
  exact ⟨rowAt_cell hb 0, rowAt_cell hb 1, rowAt_cell hb 2, rowAt_cell hb 3, rowAt_cell hb 4, rowAt_cell hb 5, rowAt_cell hb 6⟩
theorem put1_b {B : Nat} {w0 w : World} {p : Nat} {S : Lb} (h : LbB B w0 w p S) (x : In) (hm : S.n < 65536) (hb : x.e = 0) :
    Calls Try.prog 29 #[.pointer (some ⟨p, 0, none⟩), .slice (some ⟨w.heap.size, 0, none⟩) 1 1] (w.alloc (.cells #[.int .i64 x.op, .int .i64 x.d, .int .i64 x.n, .int .i64 x.m, .int .i64 x.a, .int .i64 x.c, .int .i64 x.i] 29)) fun e w' => e = .returned (.tuple #[]) ∧ LbB B w0 w' p (S.app (fun _ => x) 1) :=
  put_b (h.past ((Below.refl _ _).alloc (Nat.le_refl _) _)) _ 1 1 (fun _ => x) (by omega) (Lib.hid (one_src x w)) (fun _ _ => hb)
/-- Const. -/
def prt (v : Int) (k : Nat) : Int := wrap64 (bits .and .u64 (v / 2 ^ (16 * k)) 65535)
def opC (v : Int) : Nat → Int
  | 0 => 2
  | k + 1 => if prt v k = 0 then opC v k else 3
def cI (reg v : Int) (k : Nat) : In := ⟨opC v k, reg, 0, k, 0, 0, prt v k⟩
def stC (S : Lb) (reg v : Int) : Nat → Lb
  | 0 => S
  | k + 1 => if prt v k = 0 then stC S reg v k else (stC S reg v k).app (fun _ => cI reg v k) 1
def stZ (S : Lb) (reg v : Int) : Lb := if v = 0 then (stC S reg v 4).app (fun _ => ⟨2, reg, 0, 0, 0, 0, 0⟩) 1 else stC S reg v 4
theorem stC_n (S : Lb) (reg v : Int) : ∀ k, (stC S reg v k).n ≤ S.n + k
  | 0 => Nat.le_refl _
  | k + 1 => by
    unfold stC
    split
    · have := stC_n S reg v k; omega
    · have := stC_n S reg v k
      show (stC S reg v k).n + 1 ≤ _
      omega
theorem opC_or (v : Int) : ∀ k, opC v k = 2 ∨ opC v k = 3
  | 0 => .inl rfl
  | k + 1 => by
    unfold opC
    split
    · exact opC_or v k
    · exact .inr rfl
set_option maxRecDepth 100000 in
set_option maxHeartbeats 8000000 in
theorem const_b {B : Nat} {w0 w : World} {p : Nat} {S : Lb} (h : LbB B w0 w p S) (reg v : Int) (hr : 0 ≤ reg ∧ reg ≤ 30) (hv : 0 ≤ v ∧ v < 18446744073709551616) (hn : S.n + 5 ≤ 65536) (hck : ∀ k, k < 4 → (cI reg v k).e = 0) (hck0 : (⟨2, reg, 0, 0, 0, 0, 0⟩ : In).e = 0) :
    Calls Try.prog 21 #[.pointer (some ⟨p, 0, none⟩), .int .i64 reg, .int .u64 v] w fun e w' => e = .returned (.tuple #[]) ∧ LbB B w0 w' p (stZ S reg v) := by
  have H := Lib.hid h
  have HCK := Lib.hid hck
  have HCK0 := Lib.hid hck0
  clear h hck hck0
  go_enter Try.func21, Try.ntmps21
  go_wp2
  go_loopw [6, 17] (fun s6 s17 W => ∃ k : Nat, k ≤ 4 ∧ s17 = .int .i64 k ∧ s6 = .int .i64 (opC v k) ∧ Hid (LbB B w0 W p (stC S reg v k))) (fun _ s17 _ => 4 - (intOf s17).toNat)
  case atStart => exact ⟨0, by omega, rfl, rfl, H⟩
  case round =>
    obtain ⟨k, hk, rfl, rfl, HL⟩ := hrel
    by_cases hlt : k < 4
    · go_upto_region 7 with (fail)
      rw [show wrap64 (bits BinOp.and IntKind.u64 (v / 2 ^ (16 * k)) 65535) = prt v k from rfl]
      obtain ⟨pv, hpv⟩ : ∃ pv, prt v k = pv := ⟨_, rfl⟩
      rw [hpv]
      have HPV := Lib.hid hpv
      have hN := stC_n S reg v k
      by_cases hp : pv = 0
      · subst hp
        have HN : Hid (LbB B w0 wr p (stC S reg v (k + 1))) := Lib.hid (by unfold stC; rw [if_pos HPV.out]; exact HL.out)
        have ho : opC v k = opC v (k + 1) := by
          conv => rhs; unfold opC
          rw [if_pos hpv]
        have HO := Lib.hid ho
        clear hpv ho
        go_wp2
        exact ⟨⟨k + 1, by omega, by go_num, by rw [← HO.out], HN⟩, by simp [intOf]; omega⟩
      · have hpb : (pv == 0) = false := by simpa using hp
        have HPut : Hid (Calls Try.prog 29 #[.pointer (some ⟨p, 0, none⟩), .slice (some ⟨wr.heap.size, 0, none⟩) 1 1] (wr.alloc (.cells #[.int .i64 (opC v k), .int .i64 reg, .int .i64 0, .int .i64 (k : Int), .int .i64 0, .int .i64 0, .int .i64 pv] 29)) fun e w' => e = .returned (.tuple #[]) ∧ LbB B w0 w' p (stC S reg v (k + 1))) := Lib.hid (by
          have := put1_b HL.out (cI reg v k) (by omega) (HCK.out k hlt)
          unfold stC
          rw [if_neg (by rw [hpv]; exact hp), ← hpv]
          exact this)
        have ho : opC v (k + 1) = 3 := by
          unfold opC
          rw [if_neg (by rw [hpv]; exact hp)]
        have HO := Lib.hid ho
        clear hpv ho
        go_wp2_with (go_at_call 29; refine HPut.out.mono ?_; rintro e w2 ⟨rfl, hl2⟩; have HL2 := Lib.hid hl2; clear hl2)
        exact ⟨⟨k + 1, by omega, by go_num, by rw [HO.out], HL2⟩, by simp [intOf]; omega⟩
    · obtain rfl : k = 4 := by omega
      have hN := stC_n S reg v 4
      by_cases hv0 : v = 0
      · subst hv0
        have HPut : Hid (Calls Try.prog 29 #[.pointer (some ⟨p, 0, none⟩), .slice (some ⟨wr.heap.size, 0, none⟩) 1 1] (wr.alloc (.cells #[.int .i64 2, .int .i64 reg, .int .i64 0, .int .i64 0, .int .i64 0, .int .i64 0, .int .i64 0] 29)) fun e w' => e = .returned (.tuple #[]) ∧ LbB B w0 w' p (stZ S reg 0)) := Lib.hid (by
          have := put1_b HL.out ⟨2, reg, 0, 0, 0, 0, 0⟩ (by omega) HCK0.out
          unfold stZ
          rw [if_pos rfl]
          exact this)
        go_wp2_with (go_at_call 29; refine HPut.out.mono ?_; rintro e w2 ⟨rfl, hl2⟩; have HL2 := Lib.hid hl2; clear hl2)
        go_end0
        exact ⟨rfl, HL2.out⟩
      · have hvb : (v == 0) = false := by simpa using hv0
        have HN : Hid (LbB B w0 wr p (stZ S reg v)) := Lib.hid (by unfold stZ; rw [if_neg hv0]; exact HL.out)
        go_wp2
        go_end0
        exact ⟨rfl, HN.out⟩
end Go.Proofs.Ytnbpgoacooddjaa.Lab
