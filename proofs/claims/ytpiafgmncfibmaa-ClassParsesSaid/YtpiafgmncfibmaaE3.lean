import Derived.Test.YtpiafgmncfibmaaE2
import Derived.Test.YtpiafgmncfibmaaRk
import Derived.Test.YtpiafgmncfibmaaCv
import Derived.Test.YtpiafgmncfibmaaRows
import Derived.WalkKit
import Derived.ProofKit
import Derived.OpenShut
import Derived.Deep.QuietTactic
import Derived.BigQuiet
import Derived.Outline
import Derived.WalkSmall
import Derived.WalkLawsBesides
import Derived.WalkSpells
import Derived.BigGuardPart
import Derived.RegionTactic
import Derived.Deep.RegionHeld3
import Derived.Lib.Hide
import Derived.Deep.MidRow
import Derived.Below
import Derived.Deep.RegionWith
import Derived.Deep.OwnRows
import Derived.Deep.AppendLies
namespace Go.Proofs.Ytpiafgmncfibmaa
open Go.ChangeShapes Go.WideShapes Go.ChangeAt Go.RowKit
set_option linter.unusedVariables false

def feqv (M M' : Nat) (F F' : Nat → Int) (X X' : Nat → Bool) : Prop := M = M' ∧ ∀ j, j < M → F j = F' j ∧ X j = X' j
def ieqv (n m : Nat) (F G : Nat → Int) : Prop := n = m ∧ ∀ i, i < n → F i = G i
def meqv (r r' s s' : Int) (n n' : Nat) (F F' : Nat → Int) (m m' : Nat) (G G' : Nat → Int) (k k' : Nat) (H H' : Nat → Int) : Prop := r = r' ∧ s = s' ∧ ieqv n n' F F' ∧ ieqv m m' G G' ∧ ieqv k k' H H'
def Pg.meq (P Q : Pg) (i : Nat) : Prop := meqv (P.rt i) (Q.rt i) (P.sk i) (Q.sk i) (P.pn i) (Q.pn i) (P.pt i) (Q.pt i) (P.ln i) (Q.ln i) (P.lt i) (Q.lt i) (P.cn i) (Q.cn i) (fun j => (P.cd i j : Nat)) (fun j => (Q.cd i j : Nat))
def Pg.feq (P Q : Pg) (i : Nat) : Prop := feqv (P.nf i) (Q.nf i) (P.ft i) (Q.ft i) (P.fv i) (Q.fv i)
structure Pg.eqv (P Q : Pg) : Prop where
  p : ieqv P.np Q.np P.po Q.po
  c : P.nc = Q.nc
  f : ∀ i, i < P.nc → P.feq Q i
  n : P.nm = Q.nm
  m : ∀ i, i < P.nm → P.meq Q i
theorem some_b (p : Prop) : ∃ b : Bool, (b = true ↔ p) := ⟨@decide p (Classical.propDecidable p), by simp⟩
theorem sf_c (a : Option Addr) (n c : Nat) (a' : Option Addr) (m c' : Nat) (F G : Nat → Int) (X Y : Nat → Bool) (w : World) (hn : n ≤ Big) (hm : m ≤ Big) (hr : Row2 w a n (fun i => .int .i64 (F i)) (fun i => .bool (X i))) (hr' : Row2 w a' m (fun i => .int .i64 (G i)) (fun i => .bool (Y i))) (b : Bool) (hb : b = true ↔ feqv n m F G X Y) :
    Calls Try.prog 57 #[.slice a n c, .slice a' m c'] w fun e w' => e = .returned (.bool b) ∧ Below w.heap.size w w' := by
  have HR := Lib.hid hr
  have HR' := Lib.hid hr'
  have HB := Lib.hid hb
  clear hr hr' hb
  go_enter Try.func57, Try.ntmps57
  go_wp2_with (first | (go_at_call 84; refine (eq84_c a n c a' m c' F G X Y _ hn hm HR.out HR'.out b HB.out).mono ?_; rintro e w' ⟨rfl, hb⟩))
  go_ret
  exact ⟨rfl, hb⟩
set_option maxHeartbeats 1000000 in
theorem ef_fd (a : Option Addr) (n c : Nat) (A : Nat → Option Addr) (M C : Nat → Nat) (F : Nat → Nat → Int) (X : Nat → Nat → Bool) (a' : Option Addr) (n' c' : Nat) (A' : Nat → Option Addr) (M' C' : Nat → Nat) (F' : Nat → Nat → Int) (X' : Nat → Nat → Bool) (w : World) (hn : n ≤ Big) (hn' : n' ≤ Big)
    (hr : Row1 w a n (fun i => .slice (A i) (M i) (C i)) ∧ ∀ i, i < n → M i ≤ Big ∧ Row2 w (A i) (M i) (fun j => .int .i64 (F i j)) (fun j => .bool (X i j)))
    (hr' : Row1 w a' n' (fun i => .slice (A' i) (M' i) (C' i)) ∧ ∀ i, i < n' → M' i ≤ Big ∧ Row2 w (A' i) (M' i) (fun j => .int .i64 (F' i j)) (fun j => .bool (X' i j)))
    (b : Bool) (hb : b = true ↔ n = n' ∧ ∀ i, i < n → feqv (M i) (M' i) (F i) (F' i) (X i) (X' i)) :
    Calls Try.prog 56 #[.slice a n c, .slice a' n' c', .func (.func 57) #[] #[]] w fun e w' => e = .returned (.bool b) ∧ Below w.heap.size w w' := by
  unfold Big at hn hn'
  have HR := Lib.hid hr
  have HR' := Lib.hid hr'
  have HB := Lib.hid hb
  clear hr hr' hb
  by_cases hnm : n = n'
  case neg =>
    obtain rfl : b = false := bool_false_of_ne fun h => hnm (HB.out.1 h).1
    have d : ((n : Int) != (n' : Int)) = true := by simpa using (show ¬ (n : Int) = (n' : Int) by omega)
    go_enter Try.func56, Try.ntmps56
    go_wp2
    go_ret
    exact ⟨rfl, Below.refl _ _⟩
  subst hnm
  have HB2 : Hid (b = true ↔ ∀ i, i < n → feqv (M i) (M' i) (F i) (F' i) (X i) (X' i)) := Lib.hid ⟨fun h => (HB.out.1 h).2, fun h => HB.out.2 ⟨rfl, h⟩⟩
  clear HB
  go_enter Try.func56, Try.ntmps56
  go_wp2
  go_loopw [17, 7, 8, 9] (fun i _ _ _ wr => ∃ j : Nat, j ≤ n ∧ i = .int .i64 j ∧ Hid ((∀ k, k < j → feqv (M k) (M' k) (F k) (F' k) (X k) (X' k)) ∧ Below w.heap.size w wr)) (fun i _ _ _ _ => n - (intOf i).toNat)
  case atStart => exact ⟨0, by omega, rfl, Lib.hid ⟨fun k hk => absurd hk (Nat.not_lt_zero k), Below.refl _ _⟩⟩
  case round =>
    obtain ⟨j, hj, rfl, HQ⟩ := hrel
    by_cases hjn : j < n
    · have gj : (j : Int) < n := by omega
      rcases Row1.kept HR.out.1 (Kept.of HQ.out.2) with h0 | ⟨x, o, rfl, hx, hc⟩
      · exact absurd h0 (by omega)
      have c0 := hc j hjn; clear hc
      rcases Row1.kept HR'.out.1 (Kept.of HQ.out.2) with h0 | ⟨x', o', rfl, hx', hc⟩
      · exact absurd h0 (by omega)
      have c1 := hc j hjn; clear hc
      dsimp only at c0 c1
      obtain ⟨q, hq⟩ := some_b (feqv (M j) (M' j) (F j) (F' j) (X j) (X' j))
      have HE := Lib.hid hq
      clear hq
      cases q with
      | true =>
        have HE2 := Lib.hid (HE.out.1 rfl)
        go_wp2_with (first | (go_at_call 57; refine (sf_c _ _ _ _ _ _ (F j) (F' j) (X j) (X' j) _ (HR.out.2 j hjn).1 (HR'.out.2 j hjn).1 (Row2.kept (HR.out.2 j hjn).2 (Kept.of HQ.out.2)) (Row2.kept (HR'.out.2 j hjn).2 (Kept.of HQ.out.2)) true HE.out).mono ?_; rintro e w2 ⟨rfl, hb2⟩; have HQ2 := Lib.hid (HQ.out.2.trans (hb2.mono HQ.out.2.size)); clear hb2))
        exact ⟨⟨j + 1, by omega, by go_num, Lib.hid ⟨forall_snoc HQ.out.1 HE2.out, HQ2.out⟩⟩, by simp [intOf]; omega⟩
      | false =>
        obtain rfl : b = false := bool_false_of_ne fun h => absurd (HE.out.2 (HB2.out.1 h j hjn)) (by decide)
        go_wp2_with (first | (go_at_call 57; refine (sf_c _ _ _ _ _ _ (F j) (F' j) (X j) (X' j) _ (HR.out.2 j hjn).1 (HR'.out.2 j hjn).1 (Row2.kept (HR.out.2 j hjn).2 (Kept.of HQ.out.2)) (Row2.kept (HR'.out.2 j hjn).2 (Kept.of HQ.out.2)) false HE.out).mono ?_; rintro e w2 ⟨rfl, hb2⟩; have HQ2 := Lib.hid (HQ.out.2.trans (hb2.mono HQ.out.2.size)); clear hb2))
        go_ret
        exact ⟨rfl, HQ2.out⟩
    · obtain rfl : j = n := by omega
      obtain rfl : b = true := HB2.out.2 HQ.out.1
      go_wp2
      go_ret
      exact ⟨rfl, HQ.out.2⟩
/-- A method's five cells. -/
def mtv (a0 : Option Addr) (n0 c0 : Nat) (r : Int) (a1 : Option Addr) (n1 c1 : Nat) (s : Int) (a2 : Option Addr) (n2 c2 : Nat) : Array Value := #[.slice a0 n0 c0, .int .i64 r, .slice a1 n1 c1, .int .i64 s, .slice a2 n2 c2]
/-- Two methods that a call has boxed. -/
theorem box2_cells (w : World) (a b c d e a' b' c' d' e' : Value) : ∀ w', Below (w.heap.size + 1 + 1) ((w.alloc (.cells #[a, b, c, d, e] 50)).alloc (.cells #[a', b', c', d', e'] 50)) w' →
    (w'.cell? ⟨w.heap.size, 0, none⟩ = some a ∧ w'.cell? ⟨w.heap.size, 1, none⟩ = some b ∧ w'.cell? ⟨w.heap.size, 2, none⟩ = some c ∧ w'.cell? ⟨w.heap.size, 3, none⟩ = some d ∧ w'.cell? ⟨w.heap.size, 4, none⟩ = some e) ∧
    (w'.cell? ⟨w.heap.size + 1, 0, none⟩ = some a' ∧ w'.cell? ⟨w.heap.size + 1, 1, none⟩ = some b' ∧ w'.cell? ⟨w.heap.size + 1, 2, none⟩ = some c' ∧ w'.cell? ⟨w.heap.size + 1, 3, none⟩ = some d' ∧ w'.cell? ⟨w.heap.size + 1, 4, none⟩ = some e') := fun w' hb => by
  have h1 := rowAt_past (rowAt_new w #[a, b, c, d, e] 50) (.cells #[a', b', c', d', e'] 50)
  have h2 := rowAt_new (w.alloc (.cells #[a, b, c, d, e] 50)) #[a', b', c', d', e'] 50
  rw [show (w.alloc (.cells #[a, b, c, d, e] 50)).heap.size = w.heap.size + 1 by simp] at h2
  refine ⟨⟨?_, ?_, ?_, ?_, ?_⟩, ?_, ?_, ?_, ?_, ?_⟩
  all_goals
    first
    | (rw [hb.cell (p := ⟨w.heap.size, _, none⟩) (by simp; omega)]; exact rowAt_cell h1 _)
    | (rw [hb.cell (p := ⟨w.heap.size + 1, _, none⟩) (by simp)]; exact rowAt_cell h2 _)
end Go.Proofs.Ytpiafgmncfibmaa
