import Derived.Test.YtnbpgoacooddjaaLv
import Derived.Test.YtnbpgoacooddjaaLn
namespace Go.Proofs.Ytnbpgoacooddjaa.Lab
open Go.ChangeShapes Go.WideShapes Go.ChangeAt Go.RowKit Go.Maps
open Go.Proofs.Ytnbpgoacooddjaa.En
set_option linter.unusedVariables false
/-- One of Const's instructions. -/
def kI (o d : Int) (p : Nat) (q : Int) : In := ⟨o, d, 0, p, 0, 0, q⟩
theorem kI_e (o d : Int) (p : Nat) (q : Int) (ho : o = 2 ∨ o = 3) (d1 : 0 ≤ d) (d2 : d ≤ 30) (hp : p < 4) (q1 : 0 ≤ q) (q2 : q ≤ 65535) : (kI o d p q).e = 0 := by
  have hk : okN o.toNat d 0 p 0 0 q = true := by
    rcases ho with rfl | rfl
    · show Fr.ok_2 d 0 p 0 0 q = true
      simp [Fr.ok_2, Fr.wi]; omega
    · show Fr.ok_3 d 0 p 0 0 q = true
      simp [Fr.ok_3, Fr.wi]; omega
  have h0 : (kI o d p q).ok = true := by
    show (decide (0 ≤ o ∧ o ≤ 42) && okN o.toNat d 0 p 0 0 q) = true
    rw [hk]; simp; omega
  unfold In.e
  rw [if_pos h0]
/-- What it does. -/
def ap (x : In) (r : Rg) : Rg := if x.op = 2 then r.set x.d (x.i * pw x.m.toNat) else r.set x.d (r.get x.d + x.i * pw x.m.toNat)
/-- What the first j do. -/
def Rn (F : Nat → In) (r : Rg) : Nat → Rg
  | 0 => r
  | j + 1 => ap (F j) (Rn F r j)
theorem Rn_congr (F G : Nat → In) (r : Rg) : ∀ n, (∀ j, j < n → F j = G j) → Rn F r n = Rn G r n
  | 0, _ => rfl
  | n + 1, h => by
    show ap (F n) (Rn F r n) = ap (G n) (Rn G r n)
    rw [h n (by omega), Rn_congr F G r n fun j hj => h j (by omega)]
/-- 16 bits k times. -/
def pq : Nat → Int
  | 0 => 1
  | 1 => 65536
  | 2 => 4294967296
  | 3 => 281474976710656
  | _ => 18446744073709551616
def lo (v : Int) (k : Nat) : Int := v % pq k
theorem prt_eq (v : Int) (k : Nat) (hk : k < 4) (v1 : 0 ≤ v) (v2 : v < 18446744073709551616) : prt v k = v / pw k % 65536 := imm_eq v k hk v1 v2
theorem lo_step (v : Int) (k : Nat) (hk : k < 4) : lo v (k + 1) = lo v k + (v / pw k % 65536) * pw k := by
  unfold lo
  match k, hk with
  | 0, _ => simp only [pq, pw]; omega
  | 1, _ => simp only [pq, pw]; omega
  | 2, _ => simp only [pq, pw]; omega
  | 3, _ => simp only [pq, pw]; omega
  | k + 4, h => exact absurd h (by omega)
theorem lo_field (v : Int) (k : Nat) (hk : k < 4) : lo v k / pw k % 65536 = 0 ∧ 0 ≤ lo v k ∧ lo v k < 18446744073709551616 := by
  unfold lo
  match k, hk with
  | 0, _ => simp only [pq, pw]; omega
  | 1, _ => simp only [pq, pw]; omega
  | 2, _ => simp only [pq, pw]; omega
  | 3, _ => simp only [pq, pw]; omega
  | k + 4, h => exact absurd h (by omega)
/-- How many of the first k parts are not 0. -/
def cntP (v : Int) : Nat → Nat
  | 0 => 0
  | k + 1 => if prt v k = 0 then cntP v k else cntP v k + 1
/-- A row of instructions that may be done one behind the other, at register d. -/
def May (d : Int) (F : Nat → In) (n : Nat) : Prop :=
  ∀ j, j < n → ∃ (o : Int) (p : Nat) (q : Int), F j = kI o d p q ∧ (o = 2 ∨ o = 3) ∧ p < 4 ∧ 0 ≤ q ∧ q ≤ 65535 ∧ (o = 3 → ∀ r, (Rn F r j).get d / pw p % 65536 = 0 ∧ 0 ≤ (Rn F r j).get d ∧ (Rn F r j).get d < 18446744073709551616)
structure CoI (d v : Int) (k : Nat) (S : Lb) : Prop where
  n : S.n = cntP v k
  may : May d S.F S.n
  run : ∀ r, Rn S.F r S.n = if S.n = 0 then r else r.set d (lo v k)
  zero : S.n = 0 → lo v k = 0
  opc : opC v k = if S.n = 0 then 2 else 3
theorem May.app {d : Int} {S : Lb} (x : In) (h : May d S.F S.n) (o : Int) (p : Nat) (q : Int) (hx : x = kI o d p q) (ho : o = 2 ∨ o = 3) (hp : p < 4) (q1 : 0 ≤ q) (q2 : q ≤ 65535) (h3 : o = 3 → ∀ r, (Rn S.F r S.n).get d / pw p % 65536 = 0 ∧ 0 ≤ (Rn S.F r S.n).get d ∧ (Rn S.F r S.n).get d < 18446744073709551616) :
    May d (S.app (fun _ => x) 1).F (S.n + 1) := by
  intro j hj
  have hc : ∀ r m, m ≤ S.n → Rn (S.app (fun _ => x) 1).F r m = Rn S.F r m := fun r m hm => Rn_congr _ _ _ _ fun i hi => app_lt S x i (by omega)
  by_cases hl : j < S.n
  · obtain ⟨o', p', q', h1, h2, h3, h4, h5, h6⟩ := h j hl
    exact ⟨o', p', q', by rw [app_lt S x j hl, h1], h2, h3, h4, h5, fun e r => by rw [hc r j (by omega)]; exact h6 e r⟩
  · obtain rfl : j = S.n := by omega
    exact ⟨o, p, q, by rw [app_at, hx], ho, hp, q1, q2, fun e r => by rw [hc r _ (Nat.le_refl _)]; exact h3 e r⟩
theorem Rn_app (S : Lb) (x : In) (r : Rg) : Rn (S.app (fun _ => x) 1).F r (S.n + 1) = ap x (Rn S.F r S.n) := by
  show ap ((S.app (fun _ => x) 1).F S.n) (Rn (S.app (fun _ => x) 1).F r S.n) = _
  rw [app_at, Rn_congr _ S.F r S.n fun i hi => app_lt S x i hi]
theorem coI_step (d v : Int) (k : Nat) (hk : k < 4) (d1 : 0 ≤ d) (d2 : d ≤ 30) (v1 : 0 ≤ v) (v2 : v < 18446744073709551616) (S : Lb) (h : CoI d v k S) :
    CoI d v (k + 1) (if prt v k = 0 then S else S.app (fun _ => cI d v k) 1) := by
  have hp := prt_eq v k hk v1 v2
  have hs := lo_step v k hk
  have hf := lo_field v k hk
  rw [← hp] at hs
  by_cases hz : prt v k = 0
  · rw [if_pos hz]
    rw [hz, Int.zero_mul, Int.add_zero] at hs
    exact ⟨by rw [h.n]; show _ = if prt v k = 0 then _ else _; rw [if_pos hz], h.may, by rw [hs]; exact h.run, by rw [hs]; exact h.zero, by show (if prt v k = 0 then opC v k else 3) = _; rw [if_pos hz, h.opc]⟩
  · rw [if_neg hz]
    have hb : 0 ≤ prt v k ∧ prt v k ≤ 65535 := by rw [hp]; omega
    have hx : cI d v k = kI (opC v k) d k (prt v k) := rfl
    refine ⟨?_, ?_, ?_, ?_, ?_⟩
    · show S.n + 1 = if prt v k = 0 then _ else _
      rw [if_neg hz, h.n]
    · refine May.app _ h.may _ _ _ hx (opC_or v k) hk hb.1 hb.2 fun e r => ?_
      rw [h.opc] at e
      have hn : ¬ S.n = 0 := fun hn => by rw [if_pos hn] at e; exact absurd e (by decide)
      rw [h.run, if_neg hn, Rg.get_set r d _ d1 d2]
      exact hf
    · intro r
      show Rn (S.app (fun _ => cI d v k) 1).F r (S.n + 1) = if S.n + 1 = 0 then r else r.set d (lo v (k + 1))
      rw [Rn_app, if_neg (by omega), h.run]
      by_cases hn : S.n = 0
      · rw [if_pos hn]
        have ho : opC v k = 2 := by rw [h.opc, if_pos hn]
        have : ap (cI d v k) r = r.set d (prt v k * pw k) := by
          unfold ap
          rw [if_pos (show (cI d v k).op = 2 from ho)]
          rfl
        rw [this, hs, h.zero hn, Int.zero_add]
      · rw [if_neg hn]
        have ho : opC v k = 3 := by rw [h.opc, if_neg hn]
        have : ap (cI d v k) (r.set d (lo v k)) = (r.set d (lo v k)).set d ((r.set d (lo v k)).get d + prt v k * pw k) := by
          unfold ap
          rw [if_neg (show ¬ (cI d v k).op = 2 from by show ¬ opC v k = 2; rw [ho]; decide)]
          rfl
        rw [this, Rg.get_set r d _ d1 d2, Rg.set_set r d _ _ d1 d2, hs]
    · intro hn
      exact absurd hn (Nat.succ_ne_zero _)
    · show (if prt v k = 0 then opC v k else 3) = if S.n + 1 = 0 then 2 else 3
      rw [if_neg hz, if_neg (by omega)]
theorem coI_all (d v : Int) (d1 : 0 ≤ d) (d2 : d ≤ 30) (v1 : 0 ≤ v) (v2 : v < 18446744073709551616) (S : Lb) (h0 : S.n = 0) : ∀ k, k ≤ 4 → CoI d v k (stC S d v k)
  | 0, _ => by
    show CoI d v 0 S
    exact ⟨h0, fun j hj => absurd hj (by omega), fun r => by rw [h0]; rfl, fun _ => by show v % 1 = 0; omega, by rw [h0]; rfl⟩
  | k + 1, hk => coI_step d v k (by omega) d1 d2 v1 v2 _ (coI_all d v d1 d2 v1 v2 S h0 k (by omega))
/-- What Const lays, done: the register, and how many there are. -/
theorem const_done (d v : Int) (d1 : 0 ≤ d) (d2 : d ≤ 30) (v1 : 0 ≤ v) (v2 : v < 18446744073709551616) (S : Lb) (h0 : S.n = 0) :
    (stZ S d v).n = (if cntP v 4 = 0 then 1 else cntP v 4) ∧ May d (stZ S d v).F (stZ S d v).n ∧ ∀ r, Rn (stZ S d v).F r (stZ S d v).n = r.set d v := by
  have h := coI_all d v d1 d2 v1 v2 S h0 4 (Nat.le_refl _)
  have hl : lo v 4 = v := by show v % 18446744073709551616 = v; omega
  unfold stZ
  by_cases hz : v = 0
  · rw [if_pos hz]
    subst hz
    have hn : (stC S d 0 4).n = 0 := by rw [h.n]; decide +kernel
    have hc : cntP 0 4 = 0 := by rw [← h.n]; exact hn
    refine ⟨?_, ?_, ?_⟩
    · show (stC S d 0 4).n + 1 = _
      rw [hn, hc]; rfl
    · refine May.app _ h.may 2 0 0 rfl (.inl rfl) (by decide) (by decide) (by decide) (fun e => absurd e (by decide))
    · intro r
      refine (Rn_app _ _ _).trans ?_
      rw [h.run, if_pos hn]
      unfold ap
      rw [if_pos rfl]
      show r.set d (0 * pw 0) = _
      rw [Int.zero_mul]
  · rw [if_neg hz]
    have hn : ¬ (stC S d v 4).n = 0 := fun hn => hz (by rw [← hl]; exact h.zero hn)
    refine ⟨?_, h.may, fun r => ?_⟩
    · rw [if_neg (by rw [← h.n]; exact hn)]; exact h.n
    · rw [h.run, if_neg hn, hl]
/-- One of the row, done. -/
theorem may_do {d : Int} {F : Nat → In} {n : Nat} (h : May d F n) (d1 : 0 ≤ d) (d2 : d ≤ 30) (r : Rg) (j : Nat) (hj : j < n) (w : World) :
    Calls Try.prog 23 #[(F j).v, .int .u64 0, .agg (Rn F r j).arr] w fun e w' => e = .returned (.agg (efA (Rn F r (j + 1)) 4 0 0 false)) ∧ Below w.heap.size w w' := by
  obtain ⟨o, p, q, hx, ho, hp, q1, q2, h3⟩ := h j hj
  have hR : Rn F r (j + 1) = ap (kI o d p q) (Rn F r j) := by show ap (F j) _ = _; rw [hx]
  rw [hx, hR]
  rcases ho with rfl | rfl
  · have : ap (kI 2 d p q) (Rn F r j) = (Rn F r j).set d (q * pw p) := rfl
    rw [this]
    refine rdo_23 2 d p q _ (.inl rfl) d1 d2 (by omega) (by omega) q1 q2 (Rn F r j) (fun w => ?_) w
    match p, hp with
    | 0, _ => exact rval2_0 d q _ q1 q2 w
    | 1, _ => exact rval2_1 d q _ q1 q2 w
    | 2, _ => exact rval2_2 d q _ q1 q2 w
    | 3, _ => exact rval2_3 d q _ q1 q2 w
    | k + 4, hh => exact absurd hh (by omega)
  · have : ap (kI 3 d p q) (Rn F r j) = (Rn F r j).set d ((Rn F r j).get d + q * pw p) := rfl
    rw [this]
    obtain ⟨f1, f2, f3⟩ := h3 rfl r
    refine rdo_23 3 d p q _ (.inr rfl) d1 d2 (by omega) (by omega) q1 q2 (Rn F r j) (fun w => ?_) w
    match p, hp, f1 with
    | 0, _, f1 => exact rval3_0 d q _ q1 q2 f2 f3 f1 w
    | 1, _, f1 => exact rval3_1 d q _ q1 q2 f2 f3 f1 w
    | 2, _, f1 => exact rval3_2 d q _ q1 q2 f2 f3 f1 w
    | 3, _, f1 => exact rval3_3 d q _ q1 q2 f2 f3 f1 w
    | k + 4, hh, _ => exact absurd hh (by omega)
theorem may_e {d : Int} {F : Nat → In} {n : Nat} (h : May d F n) (d1 : 0 ≤ d) (d2 : d ≤ 30) : good F n := fun j hj => by
  obtain ⟨o, p, q, hx, ho, hp, q1, q2, _⟩ := h j hj
  rw [hx]
  exact kI_e o d p q ho d1 d2 hp q1 q2
theorem cI_e (d v : Int) (k : Nat) (hk : k < 4) (d1 : 0 ≤ d) (d2 : d ≤ 30) (v1 : 0 ≤ v) (v2 : v < 18446744073709551616) : (cI d v k).e = 0 := by
  have hp := prt_eq v k hk v1 v2
  exact kI_e (opC v k) d k (prt v k) (opC_or v k) d1 d2 hk (by rw [hp]; omega) (by rw [hp]; omega)
end Go.Proofs.Ytnbpgoacooddjaa.Lab
