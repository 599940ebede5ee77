import Derived.WalkLawsBesides
import Derived.Deep.DrawnRows
import Derived.Test.YtpiafgmncfibmaaPu
import Derived.Test.YtpiafgmncfibmaaRows
import Derived.WalkKit
import Derived.ProofKit
import Derived.OpenShut
import Derived.Deep.QuietTactic
import Derived.BigQuiet
import Derived.Outline
import Derived.WalkSmall
import Derived.WalkLawsBesides
import Derived.WalkSpells
import Derived.BigGuardPart
import Derived.RegionTactic
import Derived.Deep.RegionHeld3
import Derived.Lib.Hide
import Derived.Deep.MidRow
import Derived.Below
import Derived.Deep.RegionWith
import Derived.Deep.OwnRows
import Derived.Deep.AppendLies
import Derived.Deep.RegionLaw
namespace Go.Proofs.Ytpiafgmncfibmaa
open Go.ChangeShapes Go.WideShapes Go.ChangeAt Go.RowKit
set_option linter.unusedVariables false

/-- The panic that tells what is wrong. -/
def chn (p : Nat) (e : Int) : List PanicEntry := [{ v := .iface 90 (.agg #[.int .i64 p, .int .i64 e]), recovered := false }]
/-- Bytes that are read: the world in which the reading began, the reader's block, the bytes. -/
structure Src where
  W : World
  R : Nat
  n : Nat
  c : Nat
  a : Option Addr
  d : Nat → Nat
structure SrcOk (S : Src) : Prop where
  n : S.n ≤ Big
  d : ∀ i, i < S.n → S.d i < 256
  row : S.n = 0 ∨ ∃ b o, S.a = some ⟨b, o, none⟩ ∧ (b < S.W.heap.size ∧ b ≠ S.R) ∧ ∀ i, i < S.n → S.W.cell? ⟨b, o + i, none⟩ = some (.int .u8 (S.d i : Nat))
/-- All but the reader's block is as it was when the reading began. -/
def Bw (S : Src) (V : World) : Prop := S.W.grownBy V (some S.R)
theorem Bw.size {S : Src} {V : World} (h : Bw S V) : S.W.heap.size ≤ V.heap.size := World.grownBy.size h
theorem Bw.grown {S : Src} {V V' : World} {r : Option Nat} (h : Bw S V) (hg : V.grownBy V' r) (hb : ∀ g, r = some g → g = S.R ∨ S.W.heap.size ≤ g) : Bw S V' := by
  obtain ⟨h1, h2, h3, h4, h5⟩ := h
  obtain ⟨g1, g2, g3, g4, g5⟩ := hg
  exact ⟨g1.trans h1, g2.trans h2, g3.trans h3, Nat.le_trans h4 g4, fun k hk hne => (g5 k (Nat.lt_of_lt_of_le hk h4) (fun e => by
    rcases hb k e.symm with h | h
    · exact hne (by rw [h])
    · omega)).trans (h5 k hk hne)⟩
theorem Bw.below {S : Src} {V V' : World} (h : Bw S V) (hb : Below V.heap.size V V') : Bw S V' := h.grown (grown_of_below hb none) (fun g hg => nomatch hg)
theorem Bw.alloc {S : Src} {V : World} (h : Bw S V) (o : Obj) : Bw S (V.alloc o) := h.below ((Below.refl _ _).alloc (Nat.le_refl _) _)
theorem Bw.drewN {S : Src} {V : World} (h : Bw S V) (q : Nat) : Bw S (V.drewN q) := h.below (below_drewN (Below.refl _ _) q)
theorem Bw.drew {S : Src} {V : World} (h : Bw S V) : Bw S V.drew := h.below (Below.refl _ _).drew
theorem Bw.set {S : Src} {V : World} (h : Bw S V) (a : Addr) (v : Value) (ha : a.block = S.R ∨ S.W.heap.size ≤ a.block) : Bw S (V.setCell a v) := h.grown (grown_set V a v) (fun g hg => by obtain rfl := Option.some.inj hg; exact ha)
theorem Bw.cell {S : Src} {V : World} (h : Bw S V) {b : Nat} (hb : b < S.W.heap.size ∧ b ≠ S.R) (o : Nat) : V.cell? ⟨b, o, none⟩ = S.W.cell? ⟨b, o, none⟩ := World.grownBy.cell_far h ⟨b, o, none⟩ hb.1 (fun e => hb.2 (by injection e))
/-- The reader stands at k. -/
structure Rd (S : Src) (k : Nat) (V : World) : Prop where
  r : BoxT V S.R #[.slice S.a S.n S.c, .int .i64 k] 95
  b : Bw S V
/-- How a call of the reader's ends: with what is wrong, or with a value, the reader behind it. -/
def NxR (S : Src) (x : Option (Nat × Int)) (k : Nat) (Q : Value → World → Prop) (V : World) (e : Ending) (V' : World) : Prop :=
  match x with
  | some (p, er) => e = .panicked (chn p er) ∧ Bw S V'
  | none => ∃ v, e = .returned v ∧ Q v V' ∧ Rd S k V' ∧ V.grownBy V' (some S.R)
theorem NxR.two {S : Src} {x : Option (Nat × Int)} {k : Nat} {Q : Value → World → Prop} {V V' : World} {e : Ending} (h : NxR S x k Q V e V') :
    (∃ p er, Hid (x = some (p, er)) ∧ e = .panicked (chn p er) ∧ Bw S V') ∨ (Hid (x = none) ∧ ∃ v, e = .returned v ∧ Q v V' ∧ Rd S k V' ∧ V.grownBy V' (some S.R)) := by
  cases x with
  | some pe => exact .inl ⟨pe.1, pe.2, Lib.hid rfl, h⟩
  | none => exact .inr ⟨Lib.hid rfl, h⟩
theorem NxR.bad {S : Src} {x : Option (Nat × Int)} {k : Nat} {Q : Value → World → Prop} {V V' : World} {p : Nat} {er : Int} (hx : x = some (p, er)) (hb : Bw S V') : NxR S x k Q V (.panicked (chn p er)) V' := by
  subst hx
  exact ⟨rfl, hb⟩
theorem NxR.ok {S : Src} {x : Option (Nat × Int)} {k : Nat} {Q : Value → World → Prop} {V V' : World} {v : Value} (hx : x = none) (hq : Q v V') (hr : Rd S k V') (hg : V.grownBy V' (some S.R)) : NxR S x k Q V (.returned v) V' := by
  subst hx
  exact ⟨v, rfl, hq, hr, hg⟩
theorem refuse_c (p R : Nat) (er : Int) (w : World) : Calls Try.prog 109 #[.pointer (some ⟨R, 0, none⟩), .int .i64 p, .int .i64 er] w fun e w' => e = .panicked (chn p er) ∧ w = w' := by
  go_enter Try.func109, Try.ntmps109
  go_wp2
  exact ⟨rfl, rfl, rfl⟩
theorem anyB_c (v : Nat) (b : Bool) (w : World) (h : anyB v = b) : Calls Try.prog 131 #[.int .i64 v] w fun e w' => e = .returned (.bool b) ∧ w = w' := by
  subst h
  exact any_c v w
theorem countB_c (v : Nat) (m : Int) (Mb : Nat) (w : World) (hm : w.cell? ⟨Mb, 0, none⟩ = some (.int .i64 m)) (b : Bool) (h : leB m v = b) : Calls Try.prog 120 #[.int .i64 v, .pointer (some ⟨Mb, 0, none⟩)] w fun e w' => e = .returned (.bool b) ∧ w = w' := by
  have d : decide ((v : Int) ≤ m) = b := h
  clear h
  go_enter Try.func120, Try.ntmps120
  go_wp2
  go_ret
  exact ⟨rfl, rfl⟩
theorem magicB_c (v m : Nat) (Mb : Nat) (w : World) (hm : w.cell? ⟨Mb, 0, none⟩ = some (.int .u8 m)) (hm2 : m < 256) (b : Bool) (h : eqB m v = b) : Calls Try.prog 105 #[.int .i64 v, .pointer (some ⟨Mb, 0, none⟩)] w fun e w' => e = .returned (.bool b) ∧ w = w' := by
  have d : ((v : Int) == (m : Int)) = b := h
  clear h
  go_enter Try.func105, Try.ntmps105
  go_wp2
  go_ret
  exact ⟨rfl, rfl⟩
theorem flB_c (v : Nat) (b : Bool) (w : World) (h : flB v = b) (hv : v < 256) : Calls Try.prog 122 #[.int .i64 v] w fun e w' => e = .returned (.bool b) ∧ w = w' := by
  obtain ⟨x, hx⟩ : ∃ x, isTB (v : Int) = x := ⟨_, rfl⟩
  obtain ⟨y, hy⟩ : ∃ y, isTB ((v : Int) - 16) = y := ⟨_, rfl⟩
  have hb : b = (x || y) := by rw [← h, ← hx, ← hy]; rfl
  have HX := Lib.hid hx
  have HY := Lib.hid hy
  subst hb
  clear h hx hy
  cases x with
  | true =>
    go_enter Try.func122, Try.ntmps122
    go_wp2_with (first | (go_at_call 77; (with_reducible refine (type_c (v : Int) true _ HX.out).mono ?_); rintro e w' ⟨rfl, rfl⟩))
    go_ret
    exact ⟨rfl, rfl⟩
  | false =>
    go_enter Try.func122, Try.ntmps122
    go_wp2_with (first | (go_at_call 77; (with_reducible refine (type_c (v : Int) false _ HX.out).mono ?_); rintro e w' ⟨rfl, rfl⟩) | (go_at_call 77; (with_reducible refine (type_c ((v : Int) - 16) y _ HY.out).mono ?_); rintro e w' ⟨rfl, rfl⟩))
    go_ret
    exact ⟨by simp, rfl⟩
def NxV (v : Int) (x : Value) (_ : World) : Prop := x = .int .i64 v
theorem rd_cells {S : Src} {k : Nat} {V : World} (h : Rd S k V) : V.cell? ⟨S.R, 0, none⟩ = some (.slice S.a S.n S.c) ∧ V.cell? ⟨S.R, 1, none⟩ = some (.int .i64 k) ∧ V.frozen? ⟨S.R, 1, none⟩ = false := ⟨h.r.cell 0, h.r.cell 1, rowAt_frz h.r.row 1⟩
theorem Rd.next {S : Src} {k : Nat} {V : World} (h : Rd S k V) (ho : SrcOk S) (q : Nat) (x : Int) (hx : x = ((k + 1 : Nat) : Int)) : Rd S (k + 1) ((V.drewN q).setCell ⟨S.R, 1, none⟩ (.int .i64 x)) := by
  subst hx
  have h2 : BoxT (V.drewN q) S.R #[.slice S.a S.n S.c, .int .i64 k] 95 := h.r
  exact ⟨h2.set 1 _, (h.b.drewN q).set _ _ (.inl rfl)⟩

set_option maxRecDepth 100000 in
set_option maxHeartbeats 2000000 in
theorem nx_any (S : Src) (HO : Hid (SrcOk S)) (k : Nat) (er : Int) (w : World) (HR : Hid (Rd S k w)) :
    Calls Try.prog 104 #[.pointer (some ⟨S.R, 0, none⟩), .int .i64 er, .func (.func 131) #[] #[]] w (NxR S (nxE S.n S.d er (anyB) k) (k + 1) (NxV (S.d k)) w) := by
  obtain ⟨r0, r1, r2⟩ := rd_cells HR.out
  have hn : S.n ≤ 140737488355328 := HO.out.n
  by_cases hk : k < S.n
  · obtain ⟨b, hb0⟩ : ∃ b, anyB (S.d k) = b := ⟨_, rfl⟩
    have HB : Hid (anyB (S.d k) = b) := Lib.hid hb0
    have hb := hb0
    clear hb0
    have hd := HO.out.d k hk
    obtain ⟨B, o, ha, hB, hc⟩ := HO.out.row.resolve_left (by omega)
    have hv : w.cell? ⟨B, o + k, none⟩ = some (.int .u8 (S.d k : Nat)) := (HR.out.b.cell hB _).trans (hc k hk)
    rw [ha] at r0
    clear hc
    have d1 : decide ((S.n : Int) ≤ (k : Int)) = false := decide_eq_false (by omega)
    have gk : (0 : Int) ≤ (k : Int) := by omega
    have gk2 : (k : Int) < (S.n : Int) := by omega
    have HC : Hid (∀ q : Nat, Calls Try.prog 131 (#[.int .i64 (S.d k : Nat)] ++ #[]) (w.drewN q) fun e w' => e = .returned (.bool b) ∧ w.drewN q = w') := Lib.hid fun q => by
      exact anyB_c (S.d k) b _ hb
    clear hb
    obtain ⟨W0, R, n, c, a, d⟩ := S
    dsimp only at *
    obtain ⟨v, hv0⟩ : ∃ v, d k = v := ⟨_, rfl⟩
    have HV := Lib.hid hv0
    rw [hv0] at hv hd HB HC
    clear hv0
    go_enter Try.func104, Try.ntmps104
    go_wp2
    go_quiet (fail)
    go_wp2
    go_quiet (fail)
    go_wp2_with fail
    refine (HC.out _).mono ?_
    rintro e w' ⟨rfl, rfl⟩
    cases b with
    | true =>
      go_wp2
      go_ret
      exact .ok (nxE_ok hk (by have h9 := HB.out; rw [← HV.out] at h9; exact h9)) (congrArg (fun x : Nat => Value.int .i64 (x : Int)) HV.out.symm) (HR.out.next HO.out _ _ (by omega)) (drewN_set_grown _ _ _ _)
    | false =>
      go_wp2_with (first | (go_at_call 109; refine (refuse_c k R er _).mono ?_; rintro e w' ⟨rfl, rfl⟩))
      exact And.intro rfl (NxR.bad (nxE_bad hk (by have h9 := HB.out; rw [← HV.out] at h9; exact h9)) (HR.out.b.drewN _))
  · have d1 : decide ((S.n : Int) ≤ (k : Int)) = true := decide_eq_true (by omega)
    obtain ⟨W0, R, n, c, a, d⟩ := S
    dsimp only at *
    go_enter Try.func104, Try.ntmps104
    go_wp2
    go_quiet (fail)
    go_wp2_with (first | (go_at_call 109; refine (refuse_c n R 6 _).mono ?_; rintro e w' ⟨rfl, rfl⟩))
    exact And.intro rfl (NxR.bad (nxE_short (by omega)) (HR.out.b.drewN _))

set_option maxRecDepth 100000 in
set_option maxHeartbeats 2000000 in
theorem nx_count (S : Src) (HO : Hid (SrcOk S)) (k : Nat) (er : Int) (w : World) (HR : Hid (Rd S k w)) (Mb : Nat) (m : Int) (hm : w.cell? ⟨Mb, 0, none⟩ = some (.int .i64 m)) :
    Calls Try.prog 104 #[.pointer (some ⟨S.R, 0, none⟩), .int .i64 er, .func (.func 120) #[] #[.pointer (some ⟨Mb, 0, none⟩)]] w (NxR S (nxE S.n S.d er (leB m) k) (k + 1) (NxV (S.d k)) w) := by
  obtain ⟨r0, r1, r2⟩ := rd_cells HR.out
  have hn : S.n ≤ 140737488355328 := HO.out.n
  by_cases hk : k < S.n
  · obtain ⟨b, hb0⟩ : ∃ b, leB m (S.d k) = b := ⟨_, rfl⟩
    have HB : Hid (leB m (S.d k) = b) := Lib.hid hb0
    have hb := hb0
    clear hb0
    have hd := HO.out.d k hk
    obtain ⟨B, o, ha, hB, hc⟩ := HO.out.row.resolve_left (by omega)
    have hv : w.cell? ⟨B, o + k, none⟩ = some (.int .u8 (S.d k : Nat)) := (HR.out.b.cell hB _).trans (hc k hk)
    rw [ha] at r0
    clear hc
    have d1 : decide ((S.n : Int) ≤ (k : Int)) = false := decide_eq_false (by omega)
    have gk : (0 : Int) ≤ (k : Int) := by omega
    have gk2 : (k : Int) < (S.n : Int) := by omega
    have HC : Hid (∀ q : Nat, Calls Try.prog 120 (#[.int .i64 (S.d k : Nat)] ++ #[.pointer (some ⟨Mb, 0, none⟩)]) (w.drewN q) fun e w' => e = .returned (.bool b) ∧ w.drewN q = w') := Lib.hid fun q => by
      exact countB_c (S.d k) m Mb (w.drewN q) hm b hb
    clear hb
    obtain ⟨W0, R, n, c, a, d⟩ := S
    dsimp only at *
    obtain ⟨v, hv0⟩ : ∃ v, d k = v := ⟨_, rfl⟩
    have HV := Lib.hid hv0
    rw [hv0] at hv hd HB HC
    clear hv0
    go_enter Try.func104, Try.ntmps104
    go_wp2
    go_quiet (fail)
    go_wp2
    go_quiet (fail)
    go_wp2_with fail
    refine (HC.out _).mono ?_
    rintro e w' ⟨rfl, rfl⟩
    cases b with
    | true =>
      go_wp2
      go_ret
      exact .ok (nxE_ok hk (by have h9 := HB.out; rw [← HV.out] at h9; exact h9)) (congrArg (fun x : Nat => Value.int .i64 (x : Int)) HV.out.symm) (HR.out.next HO.out _ _ (by omega)) (drewN_set_grown _ _ _ _)
    | false =>
      go_wp2_with (first | (go_at_call 109; refine (refuse_c k R er _).mono ?_; rintro e w' ⟨rfl, rfl⟩))
      exact And.intro rfl (NxR.bad (nxE_bad hk (by have h9 := HB.out; rw [← HV.out] at h9; exact h9)) (HR.out.b.drewN _))
  · have d1 : decide ((S.n : Int) ≤ (k : Int)) = true := decide_eq_true (by omega)
    obtain ⟨W0, R, n, c, a, d⟩ := S
    dsimp only at *
    go_enter Try.func104, Try.ntmps104
    go_wp2
    go_quiet (fail)
    go_wp2_with (first | (go_at_call 109; refine (refuse_c n R 6 _).mono ?_; rintro e w' ⟨rfl, rfl⟩))
    exact And.intro rfl (NxR.bad (nxE_short (by omega)) (HR.out.b.drewN _))

set_option maxRecDepth 100000 in
set_option maxHeartbeats 2000000 in
theorem nx_magic (S : Src) (HO : Hid (SrcOk S)) (k : Nat) (er : Int) (w : World) (HR : Hid (Rd S k w)) (Mb m : Nat) (hm : w.cell? ⟨Mb, 0, none⟩ = some (.int .u8 m)) (hm2 : m < 256) :
    Calls Try.prog 104 #[.pointer (some ⟨S.R, 0, none⟩), .int .i64 er, .func (.func 105) #[] #[.pointer (some ⟨Mb, 0, none⟩)]] w (NxR S (nxE S.n S.d er (eqB m) k) (k + 1) (NxV (S.d k)) w) := by
  obtain ⟨r0, r1, r2⟩ := rd_cells HR.out
  have hn : S.n ≤ 140737488355328 := HO.out.n
  by_cases hk : k < S.n
  · obtain ⟨b, hb0⟩ : ∃ b, eqB m (S.d k) = b := ⟨_, rfl⟩
    have HB : Hid (eqB m (S.d k) = b) := Lib.hid hb0
    have hb := hb0
    clear hb0
    have hd := HO.out.d k hk
    obtain ⟨B, o, ha, hB, hc⟩ := HO.out.row.resolve_left (by omega)
    have hv : w.cell? ⟨B, o + k, none⟩ = some (.int .u8 (S.d k : Nat)) := (HR.out.b.cell hB _).trans (hc k hk)
    rw [ha] at r0
    clear hc
    have d1 : decide ((S.n : Int) ≤ (k : Int)) = false := decide_eq_false (by omega)
    have gk : (0 : Int) ≤ (k : Int) := by omega
    have gk2 : (k : Int) < (S.n : Int) := by omega
    have HC : Hid (∀ q : Nat, Calls Try.prog 105 (#[.int .i64 (S.d k : Nat)] ++ #[.pointer (some ⟨Mb, 0, none⟩)]) (w.drewN q) fun e w' => e = .returned (.bool b) ∧ w.drewN q = w') := Lib.hid fun q => by
      exact magicB_c (S.d k) m Mb (w.drewN q) hm hm2 b hb
    clear hb
    obtain ⟨W0, R, n, c, a, d⟩ := S
    dsimp only at *
    obtain ⟨v, hv0⟩ : ∃ v, d k = v := ⟨_, rfl⟩
    have HV := Lib.hid hv0
    rw [hv0] at hv hd HB HC
    clear hv0
    go_enter Try.func104, Try.ntmps104
    go_wp2
    go_quiet (fail)
    go_wp2
    go_quiet (fail)
    go_wp2_with fail
    refine (HC.out _).mono ?_
    rintro e w' ⟨rfl, rfl⟩
    cases b with
    | true =>
      go_wp2
      go_ret
      exact .ok (nxE_ok hk (by have h9 := HB.out; rw [← HV.out] at h9; exact h9)) (congrArg (fun x : Nat => Value.int .i64 (x : Int)) HV.out.symm) (HR.out.next HO.out _ _ (by omega)) (drewN_set_grown _ _ _ _)
    | false =>
      go_wp2_with (first | (go_at_call 109; refine (refuse_c k R er _).mono ?_; rintro e w' ⟨rfl, rfl⟩))
      exact And.intro rfl (NxR.bad (nxE_bad hk (by have h9 := HB.out; rw [← HV.out] at h9; exact h9)) (HR.out.b.drewN _))
  · have d1 : decide ((S.n : Int) ≤ (k : Int)) = true := decide_eq_true (by omega)
    obtain ⟨W0, R, n, c, a, d⟩ := S
    dsimp only at *
    go_enter Try.func104, Try.ntmps104
    go_wp2
    go_quiet (fail)
    go_wp2_with (first | (go_at_call 109; refine (refuse_c n R 6 _).mono ?_; rintro e w' ⟨rfl, rfl⟩))
    exact And.intro rfl (NxR.bad (nxE_short (by omega)) (HR.out.b.drewN _))

set_option maxRecDepth 100000 in
set_option maxHeartbeats 2000000 in
theorem nx_ret (S : Src) (HO : Hid (SrcOk S)) (k : Nat) (er : Int) (w : World) (HR : Hid (Rd S k w)) :
    Calls Try.prog 104 #[.pointer (some ⟨S.R, 0, none⟩), .int .i64 er, .func (.func 74) #[] #[]] w (NxR S (nxE S.n S.d er (rtB) k) (k + 1) (NxV (S.d k)) w) := by
  obtain ⟨r0, r1, r2⟩ := rd_cells HR.out
  have hn : S.n ≤ 140737488355328 := HO.out.n
  by_cases hk : k < S.n
  · obtain ⟨b, hb0⟩ : ∃ b, rtB (S.d k) = b := ⟨_, rfl⟩
    have HB : Hid (rtB (S.d k) = b) := Lib.hid hb0
    have hb := hb0
    clear hb0
    have hd := HO.out.d k hk
    obtain ⟨B, o, ha, hB, hc⟩ := HO.out.row.resolve_left (by omega)
    have hv : w.cell? ⟨B, o + k, none⟩ = some (.int .u8 (S.d k : Nat)) := (HR.out.b.cell hB _).trans (hc k hk)
    rw [ha] at r0
    clear hc
    have d1 : decide ((S.n : Int) ≤ (k : Int)) = false := decide_eq_false (by omega)
    have gk : (0 : Int) ≤ (k : Int) := by omega
    have gk2 : (k : Int) < (S.n : Int) := by omega
    have HC : Hid (∀ q : Nat, Calls Try.prog 74 (#[.int .i64 (S.d k : Nat)] ++ #[]) (w.drewN q) fun e w' => e = .returned (.bool b) ∧ w.drewN q = w') := Lib.hid fun q => by
      exact ret_c (S.d k) b _ hb
    clear hb
    obtain ⟨W0, R, n, c, a, d⟩ := S
    dsimp only at *
    obtain ⟨v, hv0⟩ : ∃ v, d k = v := ⟨_, rfl⟩
    have HV := Lib.hid hv0
    rw [hv0] at hv hd HB HC
    clear hv0
    go_enter Try.func104, Try.ntmps104
    go_wp2
    go_quiet (fail)
    go_wp2
    go_quiet (fail)
    go_wp2_with fail
    refine (HC.out _).mono ?_
    rintro e w' ⟨rfl, rfl⟩
    cases b with
    | true =>
      go_wp2
      go_ret
      exact .ok (nxE_ok hk (by have h9 := HB.out; rw [← HV.out] at h9; exact h9)) (congrArg (fun x : Nat => Value.int .i64 (x : Int)) HV.out.symm) (HR.out.next HO.out _ _ (by omega)) (drewN_set_grown _ _ _ _)
    | false =>
      go_wp2_with (first | (go_at_call 109; refine (refuse_c k R er _).mono ?_; rintro e w' ⟨rfl, rfl⟩))
      exact And.intro rfl (NxR.bad (nxE_bad hk (by have h9 := HB.out; rw [← HV.out] at h9; exact h9)) (HR.out.b.drewN _))
  · have d1 : decide ((S.n : Int) ≤ (k : Int)) = true := decide_eq_true (by omega)
    obtain ⟨W0, R, n, c, a, d⟩ := S
    dsimp only at *
    go_enter Try.func104, Try.ntmps104
    go_wp2
    go_quiet (fail)
    go_wp2_with (first | (go_at_call 109; refine (refuse_c n R 6 _).mono ?_; rintro e w' ⟨rfl, rfl⟩))
    exact And.intro rfl (NxR.bad (nxE_short (by omega)) (HR.out.b.drewN _))

set_option maxRecDepth 100000 in
set_option maxHeartbeats 2000000 in
theorem nx_type (S : Src) (HO : Hid (SrcOk S)) (k : Nat) (er : Int) (w : World) (HR : Hid (Rd S k w)) :
    Calls Try.prog 104 #[.pointer (some ⟨S.R, 0, none⟩), .int .i64 er, .func (.func 77) #[] #[]] w (NxR S (nxE S.n S.d er (tyB) k) (k + 1) (NxV (S.d k)) w) := by
  obtain ⟨r0, r1, r2⟩ := rd_cells HR.out
  have hn : S.n ≤ 140737488355328 := HO.out.n
  by_cases hk : k < S.n
  · obtain ⟨b, hb0⟩ : ∃ b, tyB (S.d k) = b := ⟨_, rfl⟩
    have HB : Hid (tyB (S.d k) = b) := Lib.hid hb0
    have hb := hb0
    clear hb0
    have hd := HO.out.d k hk
    obtain ⟨B, o, ha, hB, hc⟩ := HO.out.row.resolve_left (by omega)
    have hv : w.cell? ⟨B, o + k, none⟩ = some (.int .u8 (S.d k : Nat)) := (HR.out.b.cell hB _).trans (hc k hk)
    rw [ha] at r0
    clear hc
    have d1 : decide ((S.n : Int) ≤ (k : Int)) = false := decide_eq_false (by omega)
    have gk : (0 : Int) ≤ (k : Int) := by omega
    have gk2 : (k : Int) < (S.n : Int) := by omega
    have HC : Hid (∀ q : Nat, Calls Try.prog 77 (#[.int .i64 (S.d k : Nat)] ++ #[]) (w.drewN q) fun e w' => e = .returned (.bool b) ∧ w.drewN q = w') := Lib.hid fun q => by
      exact type_c (S.d k) b _ hb
    clear hb
    obtain ⟨W0, R, n, c, a, d⟩ := S
    dsimp only at *
    obtain ⟨v, hv0⟩ : ∃ v, d k = v := ⟨_, rfl⟩
    have HV := Lib.hid hv0
    rw [hv0] at hv hd HB HC
    clear hv0
    go_enter Try.func104, Try.ntmps104
    go_wp2
    go_quiet (fail)
    go_wp2
    go_quiet (fail)
    go_wp2_with fail
    refine (HC.out _).mono ?_
    rintro e w' ⟨rfl, rfl⟩
    cases b with
    | true =>
      go_wp2
      go_ret
      exact .ok (nxE_ok hk (by have h9 := HB.out; rw [← HV.out] at h9; exact h9)) (congrArg (fun x : Nat => Value.int .i64 (x : Int)) HV.out.symm) (HR.out.next HO.out _ _ (by omega)) (drewN_set_grown _ _ _ _)
    | false =>
      go_wp2_with (first | (go_at_call 109; refine (refuse_c k R er _).mono ?_; rintro e w' ⟨rfl, rfl⟩))
      exact And.intro rfl (NxR.bad (nxE_bad hk (by have h9 := HB.out; rw [← HV.out] at h9; exact h9)) (HR.out.b.drewN _))
  · have d1 : decide ((S.n : Int) ≤ (k : Int)) = true := decide_eq_true (by omega)
    obtain ⟨W0, R, n, c, a, d⟩ := S
    dsimp only at *
    go_enter Try.func104, Try.ntmps104
    go_wp2
    go_quiet (fail)
    go_wp2_with (first | (go_at_call 109; refine (refuse_c n R 6 _).mono ?_; rintro e w' ⟨rfl, rfl⟩))
    exact And.intro rfl (NxR.bad (nxE_short (by omega)) (HR.out.b.drewN _))

set_option maxRecDepth 100000 in
set_option maxHeartbeats 2000000 in
theorem nx_field (S : Src) (HO : Hid (SrcOk S)) (k : Nat) (er : Int) (w : World) (HR : Hid (Rd S k w)) :
    Calls Try.prog 104 #[.pointer (some ⟨S.R, 0, none⟩), .int .i64 er, .func (.func 122) #[] #[]] w (NxR S (nxE S.n S.d er (flB) k) (k + 1) (NxV (S.d k)) w) := by
  obtain ⟨r0, r1, r2⟩ := rd_cells HR.out
  have hn : S.n ≤ 140737488355328 := HO.out.n
  by_cases hk : k < S.n
  · obtain ⟨b, hb0⟩ : ∃ b, flB (S.d k) = b := ⟨_, rfl⟩
    have HB : Hid (flB (S.d k) = b) := Lib.hid hb0
    have hb := hb0
    clear hb0
    have hd := HO.out.d k hk
    obtain ⟨B, o, ha, hB, hc⟩ := HO.out.row.resolve_left (by omega)
    have hv : w.cell? ⟨B, o + k, none⟩ = some (.int .u8 (S.d k : Nat)) := (HR.out.b.cell hB _).trans (hc k hk)
    rw [ha] at r0
    clear hc
    have d1 : decide ((S.n : Int) ≤ (k : Int)) = false := decide_eq_false (by omega)
    have gk : (0 : Int) ≤ (k : Int) := by omega
    have gk2 : (k : Int) < (S.n : Int) := by omega
    have HC : Hid (∀ q : Nat, Calls Try.prog 122 (#[.int .i64 (S.d k : Nat)] ++ #[]) (w.drewN q) fun e w' => e = .returned (.bool b) ∧ w.drewN q = w') := Lib.hid fun q => by
      exact flB_c (S.d k) b _ hb hd
    clear hb
    obtain ⟨W0, R, n, c, a, d⟩ := S
    dsimp only at *
    obtain ⟨v, hv0⟩ : ∃ v, d k = v := ⟨_, rfl⟩
    have HV := Lib.hid hv0
    rw [hv0] at hv hd HB HC
    clear hv0
    go_enter Try.func104, Try.ntmps104
    go_wp2
    go_quiet (fail)
    go_wp2
    go_quiet (fail)
    go_wp2_with fail
    refine (HC.out _).mono ?_
    rintro e w' ⟨rfl, rfl⟩
    cases b with
    | true =>
      go_wp2
      go_ret
      exact .ok (nxE_ok hk (by have h9 := HB.out; rw [← HV.out] at h9; exact h9)) (congrArg (fun x : Nat => Value.int .i64 (x : Int)) HV.out.symm) (HR.out.next HO.out _ _ (by omega)) (drewN_set_grown _ _ _ _)
    | false =>
      go_wp2_with (first | (go_at_call 109; refine (refuse_c k R er _).mono ?_; rintro e w' ⟨rfl, rfl⟩))
      exact And.intro rfl (NxR.bad (nxE_bad hk (by have h9 := HB.out; rw [← HV.out] at h9; exact h9)) (HR.out.b.drewN _))
  · have d1 : decide ((S.n : Int) ≤ (k : Int)) = true := decide_eq_true (by omega)
    obtain ⟨W0, R, n, c, a, d⟩ := S
    dsimp only at *
    go_enter Try.func104, Try.ntmps104
    go_wp2
    go_quiet (fail)
    go_wp2_with (first | (go_at_call 109; refine (refuse_c n R 6 _).mono ?_; rintro e w' ⟨rfl, rfl⟩))
    exact And.intro rfl (NxR.bad (nxE_short (by omega)) (HR.out.b.drewN _))
end Go.Proofs.Ytpiafgmncfibmaa
