import Derived.Deep.DrawnRows
import Derived.Defers
import Derived.Recover
import Derived.Laws.Pointers
import Derived.Test.YtpiafgmncfibmaaRx
import Derived.Test.YtpiafgmncfibmaaRd
import Derived.Test.YtpiafgmncfibmaaRows
import Derived.WalkKit
import Derived.ProofKit
import Derived.OpenShut
import Derived.Deep.QuietTactic
import Derived.BigQuiet
import Derived.Outline
import Derived.WalkSmall
import Derived.WalkLawsBesides
import Derived.WalkSpells
import Derived.BigGuardPart
import Derived.RegionTactic
import Derived.Deep.RegionHeld3
import Derived.Lib.Hide
import Derived.Deep.MidRow
import Derived.Below
import Derived.Deep.RegionWith
import Derived.Deep.OwnRows
import Derived.Deep.AppendLies
import Derived.Deep.RegionLaw
namespace Go.Proofs.Ytpiafgmncfibmaa
open Go.ChangeShapes Go.WideShapes Go.ChangeAt Go.RowKit
set_option linter.unusedVariables false

theorem ta90 (p er : Int) (w : World) : (Instr.typeAssert (.iface 90 (.agg #[.int .i64 p, .int .i64 er])) 20 90 false).run Try.prog w = .ok (.agg #[.int .i64 p, .int .i64 er]) w := by kernel_rfl
theorem rec_caught (B : Nat) (p er : Int) (older : List PanicEntry) (x0 x1 : Value) (w : World) (h0 : w.cell? ⟨B, 0, none⟩ = some x0) (h1 : w.cell? ⟨B, 1, none⟩ = some x1) (z0 : w.frozen? ⟨B, 0, none⟩ = false) (z1 : w.frozen? ⟨B, 1, none⟩ = false) :
    CallsD Try.prog 81 #[.pointer (some ⟨B, 0, none⟩)] (.panicking ({ v := .iface 90 (.agg #[.int .i64 p, .int .i64 er]), recovered := false } :: older)) w fun e u' w' =>
      e = .returned (.tuple #[]) ∧ u' = .panicking ({ v := .iface 90 (.agg #[.int .i64 p, .int .i64 er]), recovered := true } :: older) ∧ w' = (w.setCell ⟨B, 0, none⟩ (.int .i64 p)).setCell ⟨B, 1, none⟩ (.int .i64 er) := by
  refine callsD_of_wpS Try.func81 rfl fun c₀ cs hu => ?_
  apply wpS_seq
  apply wpS_region
  simp [wpOpsS, go_sem, recoverD, hu, Try.ntmps81, Exit.thenS]
  apply wpS_seq
  apply wpS_region
  simp [wpOpsS, go_sem, Exit.thenS]
  refine wpS_cond (t := true) (by simp [Act.eval, Array.replicate]) ?_
  simp only [if_true]
  apply wpS_region
  simp [wpOpsS, go_sem, ta90, h0, h1, z0, z1, bodyPostS, results, Try.results81]
/-- Bytes that are to be read by the reader in block R. -/
structure InR (w : World) (R n c : Nat) (a : Option Addr) (d : Nat → Nat) : Prop where
  big : n ≤ Big
  byt : ∀ i, i < n → d i < 256
  row : n = 0 ∨ ∃ b o, a = some ⟨b, o, none⟩ ∧ (b < w.heap.size ∧ b ≠ R) ∧ ∀ i, i < n → w.cell? ⟨b, o + i, none⟩ = some (.int .u8 (d i : Nat))
  box : BoxT w R #[.slice a n c, .int .i64 (0 : Nat)] 95
def ReadX (w : World) (R n : Nat) (d : Nat → Nat) (e : Ending) (w' : World) : Prop :=
  match prsE n d with
  | some (p, er) => e = .returned (.tuple #[.agg z3, .agg #[.int .i64 p, .int .i64 er]]) ∧ w.grownBy w' (some R)
  | none => ∃ A, e = .returned (.tuple #[.agg ((prs d).cells A), .agg #[.int .i64 0, .int .i64 0]]) ∧ PgOwn w.heap.size w' (prs d) A ∧ w.grownBy w' (some R)
theorem ReadX.bad {w w' : World} {R n p : Nat} {er : Int} {d : Nat → Nat} (h : prsE n d = some (p, er)) (hg : w.grownBy w' (some R)) : ReadX w R n d (.returned (.tuple #[.agg z3, .agg #[.int .i64 p, .int .i64 er]])) w' := by
  unfold ReadX
  rw [h]
  exact ⟨rfl, hg⟩
theorem ReadX.ok {w w' : World} {R n : Nat} {d : Nat → Nat} {A : Ad} (h : prsE n d = none) (ho : PgOwn w.heap.size w' (prs d) A) (hg : w.grownBy w' (some R)) : ReadX w R n d (.returned (.tuple #[.agg ((prs d).cells A), .agg #[.int .i64 0, .int .i64 0]])) w' := by
  unfold ReadX
  rw [h]
  exact ⟨A, rfl, ho, hg⟩
def zw : Array Value := #[.int .i64 0, .int .i64 0]
/-- The two results' boxes. -/
structure RF (w : World) (R : Nat) (X Z : Array Value) (V : World) : Prop where
  x : BoxT V w.heap.size X 26
  z : BoxT V (w.heap.size + 1) Z 90
  gr : w.grownBy V (some R)
theorem RF.setx {w V : World} {R : Nat} {X X' Z : Array Value} (h : RF w R X Z V) (j : Nat) (v : Value) (hX : X.setIfInBounds j v = X') : RF w R X' Z (V.setCell ⟨w.heap.size, j, none⟩ v) :=
  ⟨hX ▸ h.x.set j v, h.z.far (by omega) j v, grown_own h.gr (grown_set V ⟨w.heap.size, j, none⟩ v) (fun g hg => by obtain rfl := Option.some.inj hg; exact Nat.le_refl _)⟩
theorem RF.setz {w V : World} {R : Nat} {X Z Z' : Array Value} (h : RF w R X Z V) (j : Nat) (v : Value) (hZ : Z.setIfInBounds j v = Z') : RF w R X Z' (V.setCell ⟨w.heap.size + 1, j, none⟩ v) :=
  ⟨h.x.far (by omega) j v, hZ ▸ h.z.set j v, grown_own h.gr (grown_set V ⟨w.heap.size + 1, j, none⟩ v) (fun g hg => by obtain rfl := Option.some.inj hg; show w.heap.size ≤ w.heap.size + 1; omega)⟩
theorem RF.yx {w V : World} {R : Nat} {X Z : Array Value} (h : RF w R X Z V) (j : Nat) (v : Value) (hv : X[j]? = some v) : V.cell? ⟨w.heap.size, j, none⟩ = some v ∧ V.frozen? ⟨w.heap.size, j, none⟩ = false := ⟨(h.x.cell j).trans hv, rowAt_frz h.x.row j⟩
theorem RF.yz {w V : World} {R : Nat} {X Z : Array Value} (h : RF w R X Z V) (j : Nat) (v : Value) (hv : Z[j]? = some v) : V.cell? ⟨w.heap.size + 1, j, none⟩ = some v ∧ V.frozen? ⟨w.heap.size + 1, j, none⟩ = false := ⟨(h.z.cell j).trans hv, rowAt_frz h.z.row j⟩
theorem BoxT.grownR {w w' : World} {b R : Nat} {C : Array Value} {e : Nat} (h : BoxT w b C e) (hg : w.grownBy w' (some R)) (hne : b ≠ R) : BoxT w' b C e := (hg.block b h.lt (fun e => hne (by injection e))).trans h
set_option maxRecDepth 100000 in
set_option maxHeartbeats 2000000 in
theorem readx_c (w : World) (R n c : Nat) (a : Option Addr) (d : Nat → Nat) (hI : Hid (InR w R n c a d)) : Calls Try.prog 45 #[.pointer (some ⟨R, 0, none⟩)] w (ReadX w R n d) := by
  have hmf : ∀ (fn : Fn) (first cap : Array Value) (w : World), (Instr.makeFunc fn first cap).run Try.prog w = .ok (.func fn first cap) w := fun _ _ _ _ => rfl
  have hR := hI.out.box.lt
  obtain ⟨W2, hW2⟩ : ∃ W, W = (w.alloc (.cells z3 26)).alloc (.cells zw 90) := ⟨_, rfl⟩
  have hs2 : W2.heap.size = w.heap.size + 1 + 1 := by rw [hW2]; simp
  have HB2 : Hid (Below w.heap.size w W2) := Lib.hid (by rw [hW2]; exact ((Below.refl _ _).alloc (Nat.le_refl _) _).alloc (by simp) _)
  have HRF : Hid (RF w R z3 zw W2) := Lib.hid (by
    rw [hW2]
    refine ⟨BoxT.keep (show BoxT (w.alloc _) w.heap.size z3 26 from heap_alloc_new _ _) (.alloc _ _), ?_, grown_trans (grown_alloc w _ (some R)) (grown_alloc _ _ (some R)) (.inl rfl)⟩
    have h := heap_alloc_new (w.alloc (.cells z3 26)) (.cells zw 90)
    rw [show (w.alloc (.cells z3 26)).heap.size = w.heap.size + 1 by simp] at h
    exact h)
  obtain ⟨S, hS⟩ : ∃ S : Src, S = ⟨W2, R, n, c, a, d⟩ := ⟨_, rfl⟩
  have HO : Hid (SrcOk S) := Lib.hid (by
    subst hS
    refine ⟨hI.out.big, hI.out.byt, ?_⟩
    rcases hI.out.row with h | ⟨b, o, h1, h2, h3⟩
    · exact .inl h
    · exact .inr ⟨b, o, h1, ⟨by show b < W2.heap.size; omega, h2.2⟩, fun i hi => (HB2.out.cell (p := ⟨b, o + i, none⟩) h2.1).trans (h3 i hi)⟩)
  have HRd : Hid (Rd S 0 W2) := Lib.hid (by
    subst hS
    exact ⟨hI.out.box.keep (.below HB2.out), grown_refl _ _⟩)
  have HC : Hid (Calls Try.prog 82 #[.pointer (some ⟨R, 0, none⟩)] W2 (NxR S (prsE n d) (mS d (m0 d + 1) (d (m0 d))) (ProgV S W2) W2)) := Lib.hid (by
    have h := rdx_program S HO W2 HRd
    subst hS
    exact h)
  have HSd : Hid (S.d = d ∧ S.W = W2 ∧ S.R = R) := Lib.hid (by subst hS; exact ⟨rfl, rfl, rfl⟩)
  have HW2 := Lib.hid hW2
  clear hS hW2 HO HRd
  go_enter_defers Try.func45, Try.ntmps45
  go_wp2_with fail
  rw [show (w.alloc (.cells #[.slice none 0 0, .slice none 0 0, .slice none 0 0] 26)).alloc (.cells #[.int .i64 0, .int .i64 0] 90) = W2 from HW2.out.symm]
  refine HC.out.mono ?_
  intro e V h
  rcases h.two with ⟨p, er, hx, rfl, hb⟩ | ⟨hx, v, rfl, ⟨A, hv, ho⟩, hr, hg⟩
  · have HF : Hid (RF w R z3 zw V) := Lib.hid (by
      have hb' : W2.grownBy V (some R) := by have h9 := hb; unfold Bw at h9; rw [HSd.out.2.1, HSd.out.2.2] at h9; exact h9
      exact ⟨HRF.out.x.grownR hb' (by omega), HRF.out.z.grownR hb' (by omega), grown_trans HRF.out.gr hb' (.inl rfl)⟩)
    refine leaves_cons (f := 81) (args := #[.pointer (some ⟨w.heap.size + 1, 0, none⟩)]) (by simp) (by simp [go_sem]) ?_
    refine (rec_caught (w.heap.size + 1) p er [] _ _ V (HF.out.yz 0 _ rfl).1 (HF.out.yz 1 _ rfl).1 (HF.out.yz 0 _ rfl).2 (HF.out.yz 1 _ rfl).2).mono ?_
    rintro e u' w'' ⟨rfl, rfl, rfl⟩
    have HF1 := Lib.hid ((HF.out.setz 0 (.int .i64 p) rfl).setz 1 (.int .i64 er) rfl)
    generalize ((V.setCell ⟨w.heap.size + 1, 0, none⟩ (.int .i64 p)).setCell ⟨w.heap.size + 1, 1, none⟩ (.int .i64 er)) = V2 at HF1 ⊢
    have x0 : V2.cell? ⟨w.heap.size, 0, none⟩ = some (.slice none 0 0) := (HF1.out.yx 0 _ rfl).1
    have x1 : V2.cell? ⟨w.heap.size, 1, none⟩ = some (.slice none 0 0) := (HF1.out.yx 1 _ rfl).1
    have x2 : V2.cell? ⟨w.heap.size, 2, none⟩ = some (.slice none 0 0) := (HF1.out.yx 2 _ rfl).1
    have y0 : V2.cell? ⟨w.heap.size + 1, 0, none⟩ = some (.int .i64 p) := (HF1.out.yz 0 _ rfl).1
    have y1 : V2.cell? ⟨w.heap.size + 1, 1, none⟩ = some (.int .i64 er) := (HF1.out.yz 1 _ rfl).1
    have HE : Hid (ReadX w R n d (.returned (.tuple #[.agg #[.slice none 0 0, .slice none 0 0, .slice none 0 0], .agg #[.int .i64 p, .int .i64 er]])) V2) := Lib.hid (ReadX.bad hx.out HF1.out.gr)
    simp [Leaves, settle, results, Try.results45, go_sem, x0, x1, x2, y0, y1]
    exact HE.out
  · have HO1 : Hid (PgOwn W2.heap.size V (prs d) A) := Lib.hid (by have h9 := ho; rw [HSd.out.1] at h9; exact h9)
    have HF : Hid (RF w R z3 zw V) := Lib.hid (by
      have hb' : W2.grownBy V (some R) := by have h9 := hg; rw [HSd.out.2.2] at h9; exact h9
      exact ⟨HRF.out.x.grownR hb' (by omega), HRF.out.z.grownR hb' (by omega), grown_trans HRF.out.gr hb' (.inl rfl)⟩)
    obtain ⟨np, hnp⟩ : ∃ x, (prs d).np = x := ⟨_, rfl⟩
    obtain ⟨nc, hnc⟩ : ∃ x, (prs d).nc = x := ⟨_, rfl⟩
    obtain ⟨nm, hnm⟩ : ∃ x, (prs d).nm = x := ⟨_, rfl⟩
    obtain rfl : v = .agg #[.slice A.pa np A.pc, .slice A.ca nc A.cc, .slice A.ma nm A.mc] := by rw [hv, ← hnp, ← hnc, ← hnm, HSd.out.1]; rfl
    have HNs := Lib.hid (And.intro hnp (And.intro hnc hnm))
    clear hv ho hr hg h hnp hnc hnm
    obtain ⟨u0, t0⟩ := HF.out.yx 0 _ rfl
    obtain ⟨u1, t1⟩ := HF.out.yx 1 _ rfl
    obtain ⟨u2, t2⟩ := HF.out.yx 2 _ rfl
    obtain ⟨v0, s0⟩ := HF.out.yz 0 _ rfl
    obtain ⟨v1, s1⟩ := HF.out.yz 1 _ rfl
    go_wp2
    clear u0 u1 u2 t0 t1 t2 v0 v1 s0 s1
    have HO2 : Hid (∀ V', (∀ e, e ≠ 26 → e ≠ 90 → KeepT e V V') → PgOwn W2.heap.size V' (prs d) A) := Lib.hid fun V' k => HO1.out.keepE fun e he => k e (by omega) (by omega)
    have HK : Hid (∀ e, e ≠ 26 → e ≠ 90 → KeepT e V V) := Lib.hid fun e _ _ => .refl e V
    replace HK : Hid (∀ e, e ≠ 26 → e ≠ 90 → KeepT e V (V.setCell ⟨w.heap.size, 0, none⟩ (.slice A.pa np A.pc))) := Lib.hid fun e h1 h2 => (HK.out e h1 h2).trans (.set HF.out.x (fun e9 => h1 e9.symm))
    replace HF := Lib.hid (HF.out.setx 0 (.slice A.pa np A.pc) rfl)
    generalize V.setCell ⟨w.heap.size, 0, none⟩ (.slice A.pa np A.pc) = e0 at HF HK ⊢
    replace HK : Hid (∀ e, e ≠ 26 → e ≠ 90 → KeepT e V (e0.setCell ⟨w.heap.size, 1, none⟩ (.slice A.ca nc A.cc))) := Lib.hid fun e h1 h2 => (HK.out e h1 h2).trans (.set HF.out.x (fun e9 => h1 e9.symm))
    replace HF := Lib.hid (HF.out.setx 1 (.slice A.ca nc A.cc) rfl)
    generalize e0.setCell ⟨w.heap.size, 1, none⟩ (.slice A.ca nc A.cc) = e1 at HF HK ⊢
    replace HK : Hid (∀ e, e ≠ 26 → e ≠ 90 → KeepT e V (e1.setCell ⟨w.heap.size, 2, none⟩ (.slice A.ma nm A.mc))) := Lib.hid fun e h1 h2 => (HK.out e h1 h2).trans (.set HF.out.x (fun e9 => h1 e9.symm))
    replace HF := Lib.hid (HF.out.setx 2 (.slice A.ma nm A.mc) rfl)
    generalize e1.setCell ⟨w.heap.size, 2, none⟩ (.slice A.ma nm A.mc) = e2 at HF HK ⊢
    replace HK : Hid (∀ e, e ≠ 26 → e ≠ 90 → KeepT e V (e2.setCell ⟨w.heap.size + 1, 0, none⟩ (.int .i64 0))) := Lib.hid fun e h1 h2 => (HK.out e h1 h2).trans (.set HF.out.z (fun e9 => h2 e9.symm))
    replace HF := Lib.hid (HF.out.setz 0 (.int .i64 0) rfl)
    generalize e2.setCell ⟨w.heap.size + 1, 0, none⟩ (.int .i64 0) = e3 at HF HK ⊢
    replace HK : Hid (∀ e, e ≠ 26 → e ≠ 90 → KeepT e V (e3.setCell ⟨w.heap.size + 1, 1, none⟩ (.int .i64 0))) := Lib.hid fun e h1 h2 => (HK.out e h1 h2).trans (.set HF.out.z (fun e9 => h2 e9.symm))
    replace HF := Lib.hid (HF.out.setz 1 (.int .i64 0) rfl)
    generalize e3.setCell ⟨w.heap.size + 1, 1, none⟩ (.int .i64 0) = e4 at HF HK ⊢
    have a0 : e4.cell? ⟨w.heap.size, 0, none⟩ = some (.slice A.pa np A.pc) := (HF.out.yx 0 _ rfl).1
    have a1 : e4.cell? ⟨w.heap.size, 1, none⟩ = some (.slice A.ca nc A.cc) := (HF.out.yx 1 _ rfl).1
    have a2 : e4.cell? ⟨w.heap.size, 2, none⟩ = some (.slice A.ma nm A.mc) := (HF.out.yx 2 _ rfl).1
    have a3 : e4.cell? ⟨w.heap.size + 1, 0, none⟩ = some (.int .i64 0) := (HF.out.yz 0 _ rfl).1
    have a4 : e4.cell? ⟨w.heap.size + 1, 1, none⟩ = some (.int .i64 0) := (HF.out.yz 1 _ rfl).1
    have HE : Hid (ReadX w R n d (.returned (.tuple #[.agg #[.slice A.pa np A.pc, .slice A.ca nc A.cc, .slice A.ma nm A.mc], .agg #[.int .i64 0, .int .i64 0]])) e4) := Lib.hid (by
      have h9 := ReadX.ok (R := R) hx.out ((HO2.out e4 HK.out).mono (lo' := w.heap.size) (by omega)) HF.out.gr
      rw [← HNs.out.1, ← HNs.out.2.1, ← HNs.out.2.2]
      exact h9)
    refine leaves_cons (f := 81) (args := #[.pointer (some ⟨w.heap.size + 1, 0, none⟩)]) (by simp) (by simp [go_sem]) ?_
    refine (rec_idle ⟨w.heap.size + 1, 0, none⟩ _).mono ?_
    rintro e u' w'' ⟨rfl, rfl, rfl⟩
    simp [Leaves, settle, results, Try.results45, go_sem, a0, a1, a2, a3, a4]
    exact HE.out
end Go.Proofs.Ytpiafgmncfibmaa
