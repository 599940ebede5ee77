import Derived.Deep.DrawnRows
import Derived.Test.YtpiafgmncfibmaaRy
import Derived.Test.YtpiafgmncfibmaaRows
import Derived.WalkKit
import Derived.ProofKit
import Derived.OpenShut
import Derived.Deep.QuietTactic
import Derived.BigQuiet
import Derived.Outline
import Derived.WalkSmall
import Derived.WalkLawsBesides
import Derived.WalkSpells
import Derived.BigGuardPart
import Derived.RegionTactic
import Derived.Deep.RegionHeld3
import Derived.Lib.Hide
import Derived.Deep.MidRow
import Derived.Below
import Derived.Deep.RegionWith
import Derived.Deep.OwnRows
import Derived.Deep.AppendLies
import Derived.Deep.RegionLaw
namespace Go.Proofs.Ytpiafgmncfibmaa
open Go.ChangeShapes Go.WideShapes Go.ChangeAt Go.RowKit
set_option linter.unusedVariables false

def GoodE (x : Option (Nat × Int)) : Prop := ∀ p er, x = some (p, er) → er ≠ 0
theorem good_or {a b : Option (Nat × Int)} (ha : GoodE a) (hb : GoodE b) : GoodE (a.or b) := by
  cases a with
  | none => exact hb
  | some x => exact ha
theorem good_fir {f : Nat → Option (Nat × Int)} (h : ∀ i, GoodE (f i)) : ∀ m, GoodE (firE f m)
  | 0 => fun p er h => by cases h
  | m + 1 => good_or (good_fir h m) (h m)
theorem good_nx {n : Nat} {d : Nat → Nat} {er : Int} {ok : Nat → Bool} {k : Nat} (h : er ≠ 0 ∨ ok = anyB) : GoodE (nxE n d er ok k) := by
  intro p e hx
  unfold nxE at hx
  split at hx
  · injection hx with hx; injection hx with _ hx; subst hx; decide
  · split at hx
    · cases hx
    · rename_i h1 h2
      injection hx with hx; injection hx with _ hx; subst hx
      rcases h with h | h
      · exact h
      · subst h; exact absurd rfl h2
theorem good_ite {c : Prop} [Decidable c] {p : Nat} {e : Int} (h : e ≠ 0) : GoodE (if c then some (p, e) else none) := by
  intro p' e' hx
  split at hx
  · injection hx with hx; injection hx with _ hx; subst hx; exact h
  · cases hx
theorem good_ite' {c : Prop} [Decidable c] {p : Nat} {e : Int} (h : e ≠ 0) : GoodE (if c then none else some (p, e)) := by
  intro p' e' hx
  split at hx
  · cases hx
  · injection hx with hx; injection hx with _ hx; subst hx; exact h
theorem good_siz (k sz : Nat) : GoodE (sizE k sz) := by
  intro p e hx
  unfold sizE at hx
  split at hx
  · injection hx with hx; injection hx with _ hx; subst hx; decide
  · exact good_ite (by decide) p e hx
theorem good_meth (n : Nat) (d : Nat → Nat) (k : Nat) : GoodE (methE n d k) := by
  unfold methE tysE
  repeat' apply good_or
  all_goals first | exact good_nx (.inl (by decide)) | exact good_nx (.inr rfl) | exact good_fir (fun i => good_nx (.inl (by decide))) _ | exact good_fir (fun i => good_nx (.inr rfl)) _ | exact good_siz _ _
theorem prsE_ne (n : Nat) (d : Nat → Nat) : GoodE (prsE n d) := by
  unfold prsE
  repeat' apply good_or
  all_goals first | exact good_nx (.inl (by decide)) | exact good_fir (fun i => good_nx (.inl (by decide))) _ | exact good_fir (fun i => good_meth _ _ _) _ | exact good_ite (by decide) | exact good_ite' (by decide) | exact good_fir (fun i => good_fir (fun j => good_nx (.inr rfl)) _) _ | exact good_fir (fun i => good_or (good_nx (.inl (by decide))) (good_fir (fun j => good_nx (.inl (by decide))) _)) _
def ParseX (w : World) (n : Nat) (d : Nat → Nat) (e : Ending) (w' : World) : Prop :=
  match prsE n d with
  | some (p, er) => e = .returned (.tuple #[.agg z3, .int .i64 p, .int .i64 er]) ∧ Below w.heap.size w w'
  | none => ∃ A, e = .returned (.tuple #[.agg ((prs d).cells A), .int .i64 0, .int .i64 0]) ∧ PgOwn w.heap.size w' (prs d) A ∧ Below w.heap.size w w'
theorem ReadX.two {w w' : World} {R n : Nat} {d : Nat → Nat} {e : Ending} (h : ReadX w R n d e w') :
    (∃ p er, Hid (prsE n d = some (p, er)) ∧ e = .returned (.tuple #[.agg z3, .agg #[.int .i64 p, .int .i64 er]]) ∧ w.grownBy w' (some R)) ∨
    (Hid (prsE n d = none) ∧ ∃ A, e = .returned (.tuple #[.agg ((prs d).cells A), .agg #[.int .i64 0, .int .i64 0]]) ∧ PgOwn w.heap.size w' (prs d) A ∧ w.grownBy w' (some R)) := by
  unfold ReadX at h
  split at h
  · rename_i p er hx
    exact .inl ⟨p, er, Lib.hid hx, h⟩
  · rename_i hx
    exact .inr ⟨Lib.hid hx, h⟩
theorem ParseX.two {w w' : World} {n : Nat} {d : Nat → Nat} {e : Ending} (h : ParseX w n d e w') :
    (∃ p er, Hid (prsE n d = some (p, er)) ∧ e = .returned (.tuple #[.agg z3, .int .i64 p, .int .i64 er]) ∧ Below w.heap.size w w') ∨
    (Hid (prsE n d = none) ∧ ∃ A, e = .returned (.tuple #[.agg ((prs d).cells A), .int .i64 0, .int .i64 0]) ∧ PgOwn w.heap.size w' (prs d) A ∧ Below w.heap.size w w') := by
  unfold ParseX at h
  split at h
  · rename_i p er hx
    exact .inl ⟨p, er, Lib.hid hx, h⟩
  · rename_i hx
    exact .inr ⟨Lib.hid hx, h⟩
theorem ParseX.bad {w w' : World} {n p : Nat} {er : Int} {d : Nat → Nat} (h : prsE n d = some (p, er)) (hg : Below w.heap.size w w') : ParseX w n d (.returned (.tuple #[.agg z3, .int .i64 p, .int .i64 er])) w' := by
  unfold ParseX
  rw [h]
  exact ⟨rfl, hg⟩
theorem ParseX.ok {w w' : World} {n : Nat} {d : Nat → Nat} {A : Ad} (h : prsE n d = none) (ho : PgOwn w.heap.size w' (prs d) A) (hg : Below w.heap.size w w') : ParseX w n d (.returned (.tuple #[.agg ((prs d).cells A), .int .i64 0, .int .i64 0])) w' := by
  unfold ParseX
  rw [h]
  exact ⟨A, rfl, ho, hg⟩
/-- n bytes that come in. -/
structure BytesIn (w : World) (a : Option Addr) (n : Nat) (d : Nat → Nat) : Prop where
  big : n ≤ Big
  byt : ∀ i, i < n → d i < 256
  row : Row1 w a n fun i => .int .u8 (d i : Nat)
theorem below_grown {L : Nat} {w0 w w' : World} {R : Nat} (h : Below L w0 w) (hl : L ≤ w0.heap.size) (hg : w.grownBy w' (some R)) (hR : L ≤ R) : Below L w0 w' := h.grown hg (Nat.le_trans hl h.size) (fun g hg => by obtain rfl := Option.some.inj hg; exact hR)
structure PQ (w : World) (P : Pg) (A : Ad) (own : Prop) (X : Array Value) (V : World) : Prop where
  x : BoxT V w.heap.size X 26
  b : Below w.heap.size w V
  o : own → PgOwn w.heap.size V P A
theorem PQ.set {w V : World} {P : Pg} {A : Ad} {own : Prop} {X X' : Array Value} (h : PQ w P A own X V) (j : Nat) (v : Value) (hX : X.setIfInBounds j v = X') : PQ w P A own X' (V.setCell ⟨w.heap.size, j, none⟩ v) :=
  ⟨hX ▸ h.x.set j v, h.b.setCell (p := ⟨w.heap.size, j, none⟩) (Nat.le_refl _) v, fun q => (h.o q).keepE fun e he => .set h.x (by omega)⟩
theorem PQ.drew {w V : World} {P : Pg} {A : Ad} {own : Prop} {X : Array Value} (h : PQ w P A own X V) : PQ w P A own X V.drew := ⟨h.x, h.b.drew, fun q => (h.o q).keepE fun e _ => .drew _⟩
theorem PQ.alloc {w V : World} {P : Pg} {A : Ad} {own : Prop} {X : Array Value} (h : PQ w P A own X V) (o : Obj) : PQ w P A own X (V.alloc o) := ⟨h.x.keep (.alloc _ _), h.b.alloc h.b.size _, fun q => (h.o q).keepE fun e _ => .alloc _ _⟩
theorem PQ.y {w V : World} {P : Pg} {A : Ad} {own : Prop} {X : Array Value} (h : PQ w P A own X V) (j : Nat) (v : Value) (hv : X[j]? = some v) : V.cell? ⟨w.heap.size, j, none⟩ = some v ∧ V.frozen? ⟨w.heap.size, j, none⟩ = false := ⟨(h.x.cell j).trans hv, rowAt_frz h.x.row j⟩
set_option maxRecDepth 100000 in
set_option maxHeartbeats 2000000 in
theorem parsex_c (a : Option Addr) (n c : Nat) (d : Nat → Nat) (w : World) (hI : Hid (BytesIn w a n d)) : Calls Try.prog 18 #[.slice a n c] w (ParseX w n d) := by
  obtain ⟨W1, hW1⟩ : ∃ W, W = (w.alloc (.cells z3 26)).alloc (.cells #[.slice a n c, .int .i64 0] 95) := ⟨_, rfl⟩
  have hs1 : W1.heap.size = w.heap.size + 1 + 1 := by rw [hW1]; simp
  have HB1 : Hid (Below w.heap.size w W1) := Lib.hid (by rw [hW1]; exact ((Below.refl _ _).alloc (Nat.le_refl _) _).alloc (by simp) _)
  have HX1 : Hid (BoxT W1 w.heap.size z3 26) := Lib.hid (by rw [hW1]; exact BoxT.keep (show BoxT (w.alloc _) w.heap.size z3 26 from heap_alloc_new _ _) (.alloc _ _))
  have HC : Hid (Calls Try.prog 45 #[.pointer (some ⟨w.heap.size + 1, 0, none⟩)] W1 (ReadX W1 (w.heap.size + 1) n d)) := Lib.hid (readx_c W1 (w.heap.size + 1) n c a d (Lib.hid ⟨hI.out.big, hI.out.byt, (by
    rcases hI.out.row with h | ⟨b, o, h1, h2, h3⟩
    · exact .inl h
    · exact .inr ⟨b, o, h1, ⟨by omega, by omega⟩, fun i hi => (HB1.out.cell (p := ⟨b, o + i, none⟩) h2).trans (h3 i hi)⟩), (by
    rw [hW1]
    have h := heap_alloc_new (w.alloc (.cells z3 26)) (.cells #[.slice a n c, .int .i64 0] 95)
    rw [show (w.alloc (.cells z3 26)).heap.size = w.heap.size + 1 by simp] at h
    exact h)⟩))
  have HW1 := Lib.hid hW1
  clear hW1
  go_enter Try.func18, Try.ntmps18
  go_wp2_with fail
  rw [show (w.alloc (.cells #[.slice none 0 0, .slice none 0 0, .slice none 0 0] 26)).alloc (.cells #[.slice a n c, .int .i64 0] 95) = W1 from HW1.out.symm]
  refine HC.out.mono ?_
  intro e V h
  rcases h.two with ⟨p, er, hx, he, hg⟩ | ⟨hx, A, he, ho, hg⟩
  · obtain rfl : e = .returned (.tuple #[.agg #[.slice none 0 0, .slice none 0 0, .slice none 0 0], .agg #[.int .i64 p, .int .i64 er]]) := he
    have dn : (er != 0) = true := by simpa using prsE_ne n d p er hx.out
    have HV : Hid (BoxT V w.heap.size z3 26) := Lib.hid (HX1.out.grownR hg (by omega))
    have HBV : Hid (Below w.heap.size w V) := Lib.hid (below_grown HB1.out (Nat.le_refl _) hg (by omega))
    clear hg h
    have hlt := HV.out.lt
    obtain ⟨W5, hW5⟩ : ∃ W, W = (V.alloc (.cells #[.slice none 0 0, .slice none 0 0, .slice none 0 0] 26)).alloc (.cells #[.int .i64 p, .int .i64 er] 90) := ⟨_, rfl⟩
    have HX5 : Hid (BoxT W5 w.heap.size z3 26) := Lib.hid (by rw [hW5]; exact (HV.out.keep (.alloc _ _)).keep (.alloc _ _))
    have HB5 : Hid (Below w.heap.size w W5) := Lib.hid (by rw [hW5]; exact (HBV.out.alloc HBV.out.size _).alloc (by simp; omega) _)
    have HY5 : Hid (BoxT W5 (V.heap.size + 1) #[.int .i64 p, .int .i64 er] 90) := Lib.hid (by
      rw [hW5]
      have h := heap_alloc_new (V.alloc (.cells #[.slice none 0 0, .slice none 0 0, .slice none 0 0] 26)) (.cells #[.int .i64 p, .int .i64 er] 90)
      rw [show (V.alloc (.cells #[.slice none 0 0, .slice none 0 0, .slice none 0 0] 26)).heap.size = V.heap.size + 1 by simp] at h
      exact h)
    have HW5 := Lib.hid hW5
    clear hW5
    have x0 : W5.cell? ⟨w.heap.size, 0, none⟩ = some (.slice none 0 0) := HX5.out.cell 0
    have x1 : W5.cell? ⟨w.heap.size, 1, none⟩ = some (.slice none 0 0) := HX5.out.cell 1
    have x2 : W5.cell? ⟨w.heap.size, 2, none⟩ = some (.slice none 0 0) := HX5.out.cell 2
    have z0 : W5.frozen? ⟨w.heap.size, 0, none⟩ = false := rowAt_frz HX5.out.row 0
    have z1 : W5.frozen? ⟨w.heap.size, 1, none⟩ = false := rowAt_frz HX5.out.row 1
    have z2 : W5.frozen? ⟨w.heap.size, 2, none⟩ = false := rowAt_frz HX5.out.row 2
    have y0 : W5.cell? ⟨V.heap.size + 1, 0, none⟩ = some (.int .i64 p) := HY5.out.cell 0
    have y1 : W5.cell? ⟨V.heap.size + 1, 1, none⟩ = some (.int .i64 er) := HY5.out.cell 1
    go_wp2
    rw [← HW5.out]
    have hne : w.heap.size ≠ V.heap.size + 1 := by omega
    go_region
    all_goals
      clear x0 x1 x2 z0 z1 z2 y0 y1
      have HQ : Hid (PQ w (prs d) noAd False z3 W5) := Lib.hid ⟨HX5.out, HB5.out, fun h => h.elim⟩
      go_wp2
      replace HQ := Lib.hid (HQ.out.set 0 (.slice none 0 0) rfl)
      generalize W5.setCell ⟨w.heap.size, 0, none⟩ (.slice none 0 0) = e0 at HQ ⊢
      replace HQ := Lib.hid (HQ.out.set 1 (.slice none 0 0) rfl)
      generalize e0.setCell ⟨w.heap.size, 1, none⟩ (.slice none 0 0) = e1 at HQ ⊢
      replace HQ := Lib.hid (HQ.out.set 2 (.slice none 0 0) rfl)
      generalize e1.setCell ⟨w.heap.size, 2, none⟩ (.slice none 0 0) = e2 at HQ ⊢
      replace HQ := Lib.hid HQ.out.drew
      generalize e2.drew = e3 at HQ ⊢
      have a0 : e3.cell? ⟨w.heap.size, 0, none⟩ = some (.slice none 0 0) := (HQ.out.y 0 _ rfl).1
      have a1 : e3.cell? ⟨w.heap.size, 1, none⟩ = some (.slice none 0 0) := (HQ.out.y 1 _ rfl).1
      have a2 : e3.cell? ⟨w.heap.size, 2, none⟩ = some (.slice none 0 0) := (HQ.out.y 2 _ rfl).1
      exact bodyPost_ret (v := .tuple #[.agg #[.slice none 0 0, .slice none 0 0, .slice none 0 0], .int .i64 p, .int .i64 er]) (by simp [results, Try.results18, go_sem, a0, a1, a2]) rfl (ParseX.bad hx.out HQ.out.b)
  · obtain ⟨np, hnp⟩ : ∃ x, (prs d).np = x := ⟨_, rfl⟩
    obtain ⟨nc, hnc⟩ : ∃ x, (prs d).nc = x := ⟨_, rfl⟩
    obtain ⟨nm, hnm⟩ : ∃ x, (prs d).nm = x := ⟨_, rfl⟩
    obtain rfl : e = .returned (.tuple #[.agg #[.slice A.pa np A.pc, .slice A.ca nc A.cc, .slice A.ma nm A.mc], .agg #[.int .i64 0, .int .i64 0]]) := by rw [he, ← hnp, ← hnc, ← hnm]; rfl
    have HNs := Lib.hid (And.intro hnp (And.intro hnc hnm))
    have HQ : Hid (PQ w (prs d) A True z3 V) := Lib.hid ⟨HX1.out.grownR hg (by omega), below_grown HB1.out (Nat.le_refl _) hg (by omega), fun _ => ho.mono (by omega)⟩
    clear he ho hg h hnp hnc hnm
    have HQ5 : Hid (PQ w (prs d) A True z3 ((V.alloc (.cells #[.slice A.pa np A.pc, .slice A.ca nc A.cc, .slice A.ma nm A.mc] 26)).alloc (.cells #[.int .i64 0, .int .i64 0] 90))) := Lib.hid ((HQ.out.alloc _).alloc _)
    have hlt := HQ.out.x.lt
    obtain ⟨x0, z0⟩ := HQ.out.y 0 _ rfl
    obtain ⟨x1, z1⟩ := HQ.out.y 1 _ rfl
    obtain ⟨x2, z2⟩ := HQ.out.y 2 _ rfl
    go_wp2
    clear x0 x1 x2 z0 z1 z2 HQ5
    replace HQ := Lib.hid (HQ.out.set 0 (.slice A.pa np A.pc) rfl)
    generalize V.setCell ⟨w.heap.size, 0, none⟩ (.slice A.pa np A.pc) = e0 at HQ ⊢
    replace HQ := Lib.hid (HQ.out.set 1 (.slice A.ca nc A.cc) rfl)
    generalize e0.setCell ⟨w.heap.size, 1, none⟩ (.slice A.ca nc A.cc) = e1 at HQ ⊢
    replace HQ := Lib.hid (HQ.out.set 2 (.slice A.ma nm A.mc) rfl)
    generalize e1.setCell ⟨w.heap.size, 2, none⟩ (.slice A.ma nm A.mc) = e2 at HQ ⊢
    have HQ5 := Lib.hid ((HQ.out.alloc (.cells #[.slice A.pa np A.pc, .slice A.ca nc A.cc, .slice A.ma nm A.mc] 26)).alloc (.cells #[.int .i64 0, .int .i64 0] 90))
    clear HQ
    generalize ((e2.alloc (.cells #[.slice A.pa np A.pc, .slice A.ca nc A.cc, .slice A.ma nm A.mc] 26)).alloc (.cells #[.int .i64 0, .int .i64 0] 90)) = e3 at HQ5 ⊢
    have a0 : e3.cell? ⟨w.heap.size, 0, none⟩ = some (.slice A.pa np A.pc) := (HQ5.out.y 0 _ rfl).1
    have a1 : e3.cell? ⟨w.heap.size, 1, none⟩ = some (.slice A.ca nc A.cc) := (HQ5.out.y 1 _ rfl).1
    have a2 : e3.cell? ⟨w.heap.size, 2, none⟩ = some (.slice A.ma nm A.mc) := (HQ5.out.y 2 _ rfl).1
    exact bodyPost_ret (v := .tuple #[.agg #[.slice A.pa np A.pc, .slice A.ca nc A.cc, .slice A.ma nm A.mc], .int .i64 0, .int .i64 0]) (by simp [results, Try.results18, go_sem, a0, a1, a2]) rfl (by
      have h9 := ParseX.ok hx.out (HQ5.out.o trivial) HQ5.out.b
      have e9 : (prs d).cells A = #[.slice A.pa np A.pc, .slice A.ca nc A.cc, .slice A.ma nm A.mc] := by rw [← HNs.out.1, ← HNs.out.2.1, ← HNs.out.2.2]; rfl
      rw [e9] at h9
      exact h9)
end Go.Proofs.Ytpiafgmncfibmaa
