import Derived.Test.YtnbpgoacooddjaaLm
import Derived.Test.YtnbpgoacooddjaaEGs
namespace Go.Proofs.Ytnbpgoacooddjaa.Lab
open Go.ChangeShapes Go.WideShapes Go.ChangeAt Go.RowKit Go.Maps
open Go.Proofs.Ytnbpgoacooddjaa.En
set_option linter.unusedVariables false
attribute [local go_sem] rowAt_drew rowAt_drewN
/-- A right instruction's word is that instruction's. -/
theorem dec_in (x : In) (h : x.e = 0) (w : World) : Calls Try.prog 24 #[.int .u32 x.w] w fun e w' => e = .returned x.v ∧ Below w.heap.size w w' := by
  have hok : x.ok = true := by
    cases hx : x.ok
    · unfold In.e at h; rw [hx] at h; cases h
    · rfl
  have hr := x.w_range
  have hw : x.w = wordN x.op.toNat x.d x.n x.m x.a x.c x.i := by unfold In.w; rw [hok]; rfl
  have h2 := hok
  simp only [In.ok, Bool.and_eq_true, decide_eq_true_eq] at h2
  have hP := decP_of x.op.toNat (by omega) x.d x.n x.m x.a x.c x.i h2.2
  rw [← hw] at hP
  have := dec_u hr.1 hr.2 hP w
  rw [show ((x.op.toNat : Nat) : Int) = x.op by omega] at this
  exact this
theorem app_lt (S : Lb) (x : In) (j : Nat) (h : j < S.n) : (S.app (fun _ => x) 1).F j = S.F j := by
  show catI S.F S.n (fun _ => x) j = _
  unfold catI
  rw [if_pos h]
theorem app_at (S : Lb) (x : In) : (S.app (fun _ => x) 1).F S.n = x := by
  show catI S.F S.n (fun _ => x) S.n = _
  unfold catI
  rw [if_neg (Nat.lt_irrefl _)]
theorem fill_lt (S : Lb) : ∀ k j, j < S.n → (fillS S k).F j = S.F j
  | 0, _, _ => rfl
  | k + 1, j, h => by
    show ((fillS S k).app (fun _ => nop) 1).F j = _
    rw [app_lt _ _ _ (by rw [fillS_n]; omega)]
    exact fill_lt S k j h
theorem fill_ge (S : Lb) : ∀ k j, S.n ≤ j → j < S.n + k → (fillS S k).F j = nop
  | 0, _, h1, h2 => by omega
  | k + 1, j, h1, h2 => by
    show ((fillS S k).app (fun _ => nop) 1).F j = _
    by_cases e : j < S.n + k
    · rw [app_lt _ _ _ (by rw [fillS_n]; omega)]
      exact fill_ge S k j h1 e
    · obtain rfl : j = (fillS S k).n := by rw [fillS_n]; omega
      exact app_at _ _
theorem fill_same (S : Lb) : ∀ k, (fillS S k).at0 = S.at0 ∧ (fillS S k).cnt = S.cnt ∧ (fillS S k).D = S.D ∧ (fillS S k).jn = S.jn ∧ (fillS S k).nm = S.nm ∧ (fillS S k).pl = S.pl ∧ (fillS S k).err = S.err
  | 0 => ⟨rfl, rfl, rfl, rfl, rfl, rfl, rfl⟩
  | k + 1 => fill_same S k
/-- The five that jump. -/
def opJ : Nat → Int
  | 0 => 20
  | 1 => 24
  | 2 => 22
  | 3 => 23
  | _ => 21
def jI (o i : Int) : In := ⟨o, 0, 0, 0, 0, 0, i⟩
theorem jI_ok (k : Nat) (hk : k < 5) (i : Int) (h4 : i % 4 = 0) (h1 : -100000 ≤ i) (h2 : i ≤ 100000) : (jI (opJ k) i).e = 0 := by
  have hok : (jI (opJ k) i).ok = true := by
    rcases (show k = 0 ∨ k = 1 ∨ k = 2 ∨ k = 3 ∨ k = 4 by omega) with rfl | rfl | rfl | rfl | rfl
    all_goals simp [jI, opJ, In.ok, okN, Fr.ok_20, Fr.ok_21, Fr.ok_22, Fr.ok_23, Fr.ok_24, Fr.wi, Fr.wm]
    all_goals omega
  unfold In.e
  rw [hok]
  rfl
theorem jI_j (k : Nat) (hk : k < 5) : jumpB (opJ k) = true := by
  rcases (show k = 0 ∨ k = 1 ∨ k = 2 ∨ k = 3 ∨ k = 4 by omega) with rfl | rfl | rfl | rfl | rfl <;> rfl
def nmX : ByteArray := { data := #[120] }
/-- What the law's play has come to. -/
structure JP (S : Lb) (a t N : Nat) (o : Int) : Prop where
  n : S.n = N
  at0 : S.at0 = 1048576
  jn : S.jn = 1
  nm : S.nm 0 = nmX
  pl : S.pl 0 = (a : Int)
  err : S.err = 0
  has : Maps.has S.D (ky nmX) = true
  atk : S.D.atKey (ky nmX) (.lit (.int .i64 0)) = .lit (.int .i64 (t : Int))
  oth : ∀ j, j < N → j ≠ a → S.F j = nop
  own : S.F a = jI o 0
  an : a < N
theorem JP.land {S : Lb} {a t N : Nat} {k : Nat} (h : JP S a t N (opJ k)) (hk : k < 5) (ht : t ≤ N) (hN : N ≤ 20000) :
    good (landF S (fun _ => a) (fun _ => t) 1) N ∧ (landF S (fun _ => a) (fun _ => t) 1) a = jI (opJ k) (4 * ((t : Int) - a)) := by
  have ha := h.an
  have hj := jI_ok k hk (4 * ((t : Int) - a)) (by omega) (by omega) (by omega)
  have e : (landF S (fun _ => a) (fun _ => t) 1) a = jI (opJ k) (4 * ((t : Int) - a)) := by
    show (if a = a then { S.F a with i := 4 * ((t : Int) - a) } else S.F a) = _
    rw [if_pos rfl, h.own]
    rfl
  refine ⟨fun j hjN => ?_, e⟩
  by_cases hja : j = a
  · subst hja
    rw [e]
    exact hj
  · have : (landF S (fun _ => a) (fun _ => t) 1) j = nop := by
      show (if j = a then { S.F j with i := 4 * ((t : Int) - a) } else S.F j) = _
      rw [if_neg hja]
      exact h.oth j hjN hja
    rw [this]
    exact nop_e
def playB (n1 n2 : Nat) (o : Int) : Lb := (fillS ((fillS ((fillS (Lb.new 1048576) n1).lab nmX) n2).jump (jI o 0) nmX) n2).app (fun _ => nop) 1
def playF (n1 n2 : Nat) (o : Int) : Lb := ((fillS ((fillS (fillS (Lb.new 1048576) n1) n2).jump (jI o 0) nmX) n2).lab nmX).app (fun _ => nop) 1
theorem put_new (v : DataW Unit) : Maps.has ((DataW.map []).put (ky nmX) v) (ky nmX) = true ∧ ((DataW.map []).put (ky nmX) v).atKey (ky nmX) (.lit (.int .i64 0)) = v := ⟨rfl, rfl⟩
theorem jump_lt (S : Lb) (x : In) (s : ByteArray) (j : Nat) (h : j < S.n) : (S.jump x s).F j = S.F j := app_lt S (zIn x) j h
theorem jump_at (S : Lb) (x : In) (s : ByteArray) : (S.jump x s).F S.n = zIn x := app_at S (zIn x)
theorem playB_n (n1 n2 : Nat) (o : Int) : (playB n1 n2 o).n = n1 + 2 * n2 + 2 := by
  show (fillS ((fillS ((fillS (Lb.new 1048576) n1).lab nmX) n2).jump (jI o 0) nmX) n2).n + 1 = _
  rw [fillS_n]
  show (fillS ((fillS (Lb.new 1048576) n1).lab nmX) n2).n + 1 + n2 + 1 = _
  rw [fillS_n]
  show (fillS (Lb.new 1048576) n1).n + n2 + 1 + n2 + 1 = _
  rw [fillS_n]
  show 0 + n1 + n2 + 1 + n2 + 1 = _
  omega
theorem playF_n (n1 n2 : Nat) (o : Int) : (playF n1 n2 o).n = n1 + 2 * n2 + 2 := by
  show (fillS ((fillS (fillS (Lb.new 1048576) n1) n2).jump (jI o 0) nmX) n2).n + 1 = _
  rw [fillS_n]
  show (fillS (fillS (Lb.new 1048576) n1) n2).n + 1 + n2 + 1 = _
  rw [fillS_n, fillS_n]
  show 0 + n1 + n2 + 1 + n2 + 1 = _
  omega
theorem playB_jp (n1 n2 k : Nat) : JP (playB n1 n2 (opJ k)) (n1 + n2) n1 (n1 + 2 * n2 + 2) (opJ k) := by
  obtain ⟨T1, hT1⟩ : ∃ T1, fillS (Lb.new 1048576) n1 = T1 := ⟨_, rfl⟩
  obtain ⟨T2, hT2⟩ : ∃ T2, fillS (T1.lab nmX) n2 = T2 := ⟨_, rfl⟩
  obtain ⟨T3, hT3⟩ : ∃ T3, fillS (T2.jump (jI (opJ k) 0) nmX) n2 = T3 := ⟨_, rfl⟩
  have hP : playB n1 n2 (opJ k) = T3.app (fun _ => nop) 1 := by unfold playB; rw [hT1, hT2, hT3]
  have s1 := fill_same (Lb.new 1048576) n1
  have n1' := fillS_n (Lb.new 1048576) n1
  rw [hT1] at s1 n1'
  have e1 : T1.n = n1 := by rw [n1']; show 0 + n1 = n1; omega
  have s2 := fill_same (T1.lab nmX) n2
  have n2' := fillS_n (T1.lab nmX) n2
  rw [hT2] at s2 n2'
  have e2 : T2.n = n1 + n2 := by rw [n2']; show T1.n + n2 = _; rw [e1]
  have s3 := fill_same (T2.jump (jI (opJ k) 0) nmX) n2
  have n3' := fillS_n (T2.jump (jI (opJ k) 0) nmX) n2
  rw [hT3] at s3 n3'
  have ej : (T2.jump (jI (opJ k) 0) nmX).n = n1 + n2 + 1 := by show T2.n + 1 = _; rw [e2]
  have e3 : T3.n = n1 + 2 * n2 + 1 := by rw [n3', ej]; omega
  have hD : T3.D = (DataW.map []).put (ky nmX) (.lit (.int .i64 (n1 : Int))) := by
    rw [s3.2.2.1]
    show T2.D = _
    rw [s2.2.2.1]
    show T1.D.put (ky nmX) (.lit (.int .i64 (T1.n : Int))) = _
    rw [s1.2.2.1, e1]
    rfl
  have hjn : T2.jn = 0 := s2.2.2.2.1.trans s1.2.2.2.1
  rw [hP]
  refine ⟨by show T3.n + 1 = _; omega, ?_, ?_, ?_, ?_, ?_, ?_, ?_, ?_, ?_, by omega⟩
  · show T3.at0 = _
    rw [s3.1]; show T2.at0 = _
    rw [s2.1]; show T1.at0 = _
    rw [s1.1]; rfl
  · show T3.jn = 1
    rw [s3.2.2.2.1]; show T2.jn + 1 = 1
    rw [hjn]
  · show T3.nm 0 = _
    rw [s3.2.2.2.2.1]; show (if 0 = T2.jn then nmX else T2.nm 0) = _
    rw [hjn, if_pos rfl]
  · show T3.pl 0 = _
    rw [s3.2.2.2.2.2.1]; show (if 0 = T2.jn then (T2.n : Int) else T2.pl 0) = _
    rw [hjn, if_pos rfl, e2]
  · show T3.err = 0
    rw [s3.2.2.2.2.2.2]; show T2.err = 0
    rw [s2.2.2.2.2.2.2]; show T1.err = 0
    rw [s1.2.2.2.2.2.2]; rfl
  · show Maps.has T3.D _ = true
    rw [hD]; exact (put_new _).1
  · show T3.D.atKey _ _ = _
    rw [hD]; exact (put_new _).2
  · intro j hj hja
    by_cases c1 : j < T3.n
    · rw [app_lt _ _ _ c1]
      by_cases c2 : j < n1 + n2 + 1
      · rw [← hT3, fill_lt _ _ _ (by omega), jump_lt _ _ _ _ (by omega)]
        by_cases c3 : j < n1
        · rw [← hT2, fill_lt _ _ _ (by show j < T1.n; omega)]
          show T1.F j = _
          rw [← hT1]
          exact fill_ge _ _ _ (Nat.zero_le _) (by show j < 0 + n1; omega)
        · rw [← hT2]
          exact fill_ge _ _ _ (by show T1.n ≤ j; omega) (by show j < T1.n + n2; omega)
      · rw [← hT3]
        exact fill_ge _ _ _ (by omega) (by omega)
    · obtain rfl : j = T3.n := by omega
      exact app_at _ _
  · rw [app_lt _ _ _ (by omega), ← hT3, fill_lt _ _ _ (by omega), ← e2]
    exact jump_at _ _ _
theorem playF_jp (n1 n2 k : Nat) : JP (playF n1 n2 (opJ k)) (n1 + n2) (n1 + 2 * n2 + 1) (n1 + 2 * n2 + 2) (opJ k) := by
  obtain ⟨T1, hT1⟩ : ∃ T1, fillS (Lb.new 1048576) n1 = T1 := ⟨_, rfl⟩
  obtain ⟨T2, hT2⟩ : ∃ T2, fillS T1 n2 = T2 := ⟨_, rfl⟩
  obtain ⟨T3, hT3⟩ : ∃ T3, fillS (T2.jump (jI (opJ k) 0) nmX) n2 = T3 := ⟨_, rfl⟩
  have hP : playF n1 n2 (opJ k) = (T3.lab nmX).app (fun _ => nop) 1 := by unfold playF; rw [hT1, hT2, hT3]
  have s1 := fill_same (Lb.new 1048576) n1
  have n1' := fillS_n (Lb.new 1048576) n1
  rw [hT1] at s1 n1'
  have e1 : T1.n = n1 := by rw [n1']; show 0 + n1 = n1; omega
  have s2 := fill_same T1 n2
  have n2' := fillS_n T1 n2
  rw [hT2] at s2 n2'
  have e2 : T2.n = n1 + n2 := by rw [n2', e1]
  have s3 := fill_same (T2.jump (jI (opJ k) 0) nmX) n2
  have n3' := fillS_n (T2.jump (jI (opJ k) 0) nmX) n2
  rw [hT3] at s3 n3'
  have ej : (T2.jump (jI (opJ k) 0) nmX).n = n1 + n2 + 1 := by show T2.n + 1 = _; rw [e2]
  have e3 : T3.n = n1 + 2 * n2 + 1 := by rw [n3', ej]; omega
  have hD : T3.D = (DataW.map [] : DataW Unit) := by
    rw [s3.2.2.1]
    show T2.D = _
    rw [s2.2.2.1, s1.2.2.1]
    rfl
  have hjn : T2.jn = 0 := s2.2.2.2.1.trans s1.2.2.2.1
  rw [hP]
  refine ⟨by show T3.n + 1 = _; omega, ?_, ?_, ?_, ?_, ?_, ?_, ?_, ?_, ?_, by omega⟩
  · show T3.at0 = _
    rw [s3.1]; show T2.at0 = _
    rw [s2.1, s1.1]; rfl
  · show T3.jn = 1
    rw [s3.2.2.2.1]; show T2.jn + 1 = 1
    rw [hjn]
  · show T3.nm 0 = _
    rw [s3.2.2.2.2.1]; show (if 0 = T2.jn then nmX else T2.nm 0) = _
    rw [hjn, if_pos rfl]
  · show T3.pl 0 = _
    rw [s3.2.2.2.2.2.1]; show (if 0 = T2.jn then (T2.n : Int) else T2.pl 0) = _
    rw [hjn, if_pos rfl, e2]
  · show T3.err = 0
    rw [s3.2.2.2.2.2.2]; show T2.err = 0
    rw [s2.2.2.2.2.2.2, s1.2.2.2.2.2.2]; rfl
  · show Maps.has (T3.D.put (ky nmX) (.lit (.int .i64 (T3.n : Int)))) _ = true
    rw [hD]; exact (put_new _).1
  · show (T3.D.put (ky nmX) (.lit (.int .i64 (T3.n : Int)))).atKey _ _ = _
    rw [hD, (put_new _).2, e3]
  · intro j hj hja
    by_cases c1 : j < T3.n
    · rw [app_lt _ _ _ (by show j < T3.n; exact c1)]
      show T3.F j = _
      by_cases c2 : j < n1 + n2 + 1
      · rw [← hT3, fill_lt _ _ _ (by omega), jump_lt _ _ _ _ (by omega)]
        by_cases c3 : j < n1
        · rw [← hT2, fill_lt _ _ _ (by omega), ← hT1]
          exact fill_ge _ _ _ (Nat.zero_le _) (by show j < 0 + n1; omega)
        · rw [← hT2]
          exact fill_ge _ _ _ (by omega) (by omega)
      · rw [← hT3]
        exact fill_ge _ _ _ (by omega) (by omega)
    · obtain rfl : j = T3.n := by omega
      exact app_at (T3.lab nmX) nop
  · rw [app_lt _ _ _ (by show n1 + n2 < T3.n; omega)]
    show T3.F _ = _
    rw [← hT3, fill_lt _ _ _ (by omega), ← e2]
    exact jump_at _ _ _
end Go.Proofs.Ytnbpgoacooddjaa.Lab
