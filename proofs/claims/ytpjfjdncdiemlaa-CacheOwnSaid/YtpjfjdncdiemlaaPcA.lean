import Derived.Test.YtpjfjdncdiemlaaRows
import Derived.WalkKit
import Derived.ProofKit
import Derived.OpenShut
import Derived.Deep.QuietTactic
import Derived.BigQuiet
import Derived.Outline
import Derived.WalkSmall
import Derived.WalkLawsBesides
import Derived.WalkSpells
import Derived.BigGuardPart
import Derived.RegionTactic
import Derived.Deep.RegionHeld3
import Derived.Lib.Hide
import Derived.Deep.OwnRows
import Derived.Maps.AppendAt
import Derived.Deep.AppendLies
import Derived.Below
import Derived.Test.YtpjfjdncdiemlaaPcFind
namespace Go.Proofs.Ytpjfjdncdiemlaa
open Go.ChangeShapes Go.WideShapes Go.ChangeAt Go.RowKit
set_option linter.unusedVariables false
theorem own_below {B : Nat} {e : TypeId} {k : Nat} {v : Value} {n : Nat} {xs : List Value} {w w' : World} (h : w.ownsRow B e k v n xs) (hb : Below w.heap.size w w') : w'.ownsRow B e k v n xs := by
  obtain ⟨h1, h2⟩ := h
  refine ⟨h1, ?_⟩
  rcases h2 with h2 | ⟨g, cap, cur, hv, hg, hh, r⟩
  · exact Or.inl h2
  · exact Or.inr ⟨g, cap, cur, hv, hg, (hb.block g (Array.getElem?_eq_some_iff.1 hh).1).trans hh, r⟩
/-- Piece j of a row of cells. -/
def TkL (xs : List Value) (j : Nat) (m a : Int) (wo : Option Addr) (wl wc : Nat) (st f r : Int) : Prop :=
  xs[j * 6]? = some (.int .i64 m) ∧ xs[j * 6 + 1]? = some (.int .u64 a) ∧ xs[j * 6 + 2]? = some (.slice wo wl wc) ∧ xs[j * 6 + 3]? = some (.int .i64 st) ∧ xs[j * 6 + 4]? = some (.int .i64 f) ∧ xs[j * 6 + 5]? = some (.int .i64 r)
def TkLM (xs : List Value) (j : Nat) (m : Int) : Prop := ∃ (a : Int) (wo : Option Addr) (wl wc : Nat) (st f r : Int), TkL xs j m a wo wl wc st f r
theorem TkL.at {w : World} {B pb n cap j : Nat} {xs : List Value} {m a : Int} {wo : Option Addr} {wl wc : Nat} {st f r : Int} (h : TkL xs j m a wo wl wc st f r) (hj : j < n) (ho : w.ownsRow B 91 6 (.slice (some ⟨pb, 0, none⟩) n cap) n xs) : TkAt w pb j m a wo wl wc st f r := by
  obtain ⟨a0, a1, a2, a3, a4, a5⟩ := h
  have g : ∀ p, p < n * 6 → w.cell? ⟨pb, p, none⟩ = xs[p]? := fun p hp => World.ownsRow.cellAt ho p hp
  exact ⟨(g _ (by omega)).trans a0, (g _ (by omega)).trans a1, (g _ (by omega)).trans a2, (g _ (by omega)).trans a3, (g _ (by omega)).trans a4, (g _ (by omega)).trans a5⟩
theorem TkLM.at {w : World} {B pb n cap j : Nat} {xs : List Value} {m : Int} (h : TkLM xs j m) (hj : j < n) (ho : w.ownsRow B 91 6 (.slice (some ⟨pb, 0, none⟩) n cap) n xs) : TkM w pb j m := by
  obtain ⟨a, wo, wl, wc, st, f, r, h⟩ := h
  exact ⟨a, wo, wl, wc, st, f, r, h.at hj ho⟩
/-- A cache at cb. -/
def CaAt (w : World) (cb : Nat) (at0 : Nat) (wd tk : Int) (v : Value) (n : Nat) (xs : List Value) : Prop :=
  cb < w.heap.size ∧ w.cell? ⟨cb, 0, none⟩ = some (.int .u64 at0) ∧ w.cell? ⟨cb, 1, none⟩ = some (.int .i64 wd) ∧ w.cell? ⟨cb, 2, none⟩ = some (.int .i64 tk) ∧ w.cell? ⟨cb, 3, none⟩ = some v ∧ w.frozen? ⟨cb, 2, none⟩ = false ∧ w.frozen? ⟨cb, 3, none⟩ = false ∧ w.ownsRow (cb + 1) 91 6 v n xs
theorem CaAt.below {w w' : World} {cb at0 n : Nat} {wd tk : Int} {v : Value} {xs : List Value} (h : CaAt w cb at0 wd tk v n xs) (hb : Below w.heap.size w w') : CaAt w' cb at0 wd tk v n xs := by
  obtain ⟨h0, a0, a1, a2, a3, z2, z3, ho⟩ := h
  exact ⟨Nat.lt_of_lt_of_le h0 hb.size, (hb.cell (p := ⟨cb, _, none⟩) h0).trans a0, (hb.cell (p := ⟨cb, _, none⟩) h0).trans a1, (hb.cell (p := ⟨cb, _, none⟩) h0).trans a2, (hb.cell (p := ⟨cb, _, none⟩) h0).trans a3, (hb.frozen (p := ⟨cb, _, none⟩) h0).trans z2, (hb.frozen (p := ⟨cb, _, none⟩) h0).trans z3, own_below ho hb⟩
set_option maxRecDepth 100000 in
set_option maxHeartbeats 2000000 in
theorem pfind_y (cb at0 pb n cap k : Nat) (wd tk m : Int) (xs : List Value) (w : World) (hk : k < n) (hn : n ≤ 1000) (HC : Hid (CaAt w cb at0 wd tk (.slice (some ⟨pb, 0, none⟩) n cap) n xs)) (HN : Hid (∀ j, j < k → ∃ m', TkLM xs j m' ∧ (m' == m) = false)) (HK : Hid (TkLM xs k m)) :
    Calls Try.prog 45 #[.pointer (some ⟨cb, 0, none⟩), .int .i64 m] w fun e w' => e = .returned (.pointer (some ⟨pb, k * 6, none⟩)) ∧ Below w.heap.size w w' := by
  have HC2 := Lib.hid (HC.out.below ((Below.refl _ _).alloc (Nat.le_refl _) (.cells #[.int .i64 m] 3)))
  obtain ⟨h0, _, _, _, a3, _, _, ho⟩ := HC2.out
  have hp := (World.ownsRow.lt ho pb rfl).2
  have HO := Lib.hid ho
  have hd : decide ((k : Int) < 0) = false := decide_eq_false (by omega)
  have gk : (k : Int) < n := by omega
  have hm0 : (w.alloc (.cells #[.int .i64 m] 3)).cell? ⟨w.heap.size, 0, none⟩ = some (.int .i64 m) := World.cell?_alloc_at _ _ _ _ rfl
  have hs0 : w.heap.size < (w.alloc (.cells #[.int .i64 m] 3)).heap.size := by simp
  have HB0 : Hid (Below w.heap.size w (w.alloc (.cells #[.int .i64 m] 3))) := Lib.hid ((Below.refl _ _).alloc (Nat.le_refl _) _)
  have HM0 := Lib.hid hm0
  clear ho hm0
  go_enter Try.func45, Try.ntmps45
  go_wp2_with fail
  generalize w.alloc (.cells #[.int .i64 m] 3) = w1 at *
  refine (index_y pb n cap k w.heap.size m _ hk hn hp hs0 HM0.out (Lib.hid (fun j hj => by obtain ⟨m', h1, h2⟩ := HN.out j hj; exact ⟨m', h1.at (by omega) HO.out, h2⟩)) (Lib.hid (HK.out.at hk HO.out))).mono ?_
  rintro e w2 ⟨rfl, hb⟩
  have a4 : w2.cell? ⟨cb, 3, none⟩ = some (.slice (some ⟨pb, 0, none⟩) n cap) := (hb.cell (p := ⟨cb, 3, none⟩) h0).trans a3
  have HB2 := Lib.hid (HB0.out.trans (hb.mono (by omega)))
  clear hb a3
  go_wp2
  go_ret
  exact ⟨rfl, HB2.out⟩
set_option maxRecDepth 100000 in
set_option maxHeartbeats 2000000 in
theorem pfind_n (cb at0 n : Nat) (wd tk m : Int) (v : Value) (xs : List Value) (w : World) (hn : n ≤ 1000) (HC : Hid (CaAt w cb at0 wd tk v n xs)) (HN : Hid (∀ j, j < n → ∃ m', TkLM xs j m' ∧ (m' == m) = false)) :
    Calls Try.prog 45 #[.pointer (some ⟨cb, 0, none⟩), .int .i64 m] w fun e w' => e = .returned (.pointer none) ∧ Below w.heap.size w w' := by
  have HC2 := Lib.hid (HC.out.below ((Below.refl _ _).alloc (Nat.le_refl _) (.cells #[.int .i64 m] 3)))
  obtain ⟨h0, _, _, _, a3, _, _, ho⟩ := HC2.out
  obtain ⟨a0, pb, cap, rfl, ha, hp, hrow⟩ : ∃ (a0 : Option Addr) (pb cap : Nat), v = .slice a0 n cap ∧ (n = 0 ∨ a0 = some ⟨pb, 0, none⟩) ∧ pb < (w.alloc (.cells #[.int .i64 m] 3)).heap.size ∧ (0 < n → v = .slice (some ⟨pb, 0, none⟩) n cap) := by
    rcases ho.2 with ⟨rfl, rfl⟩ | ⟨g, cp, cur, rfl, _, hg, _⟩
    · exact ⟨none, 0, 0, rfl, Or.inl rfl, by simp, fun h => by omega⟩
    · exact ⟨_, g, cp, rfl, Or.inr rfl, (Array.getElem?_eq_some_iff.1 hg).1, fun _ => rfl⟩
  have HO := Lib.hid ho
  have hm0 : (w.alloc (.cells #[.int .i64 m] 3)).cell? ⟨w.heap.size, 0, none⟩ = some (.int .i64 m) := World.cell?_alloc_at _ _ _ _ rfl
  have hs0 : w.heap.size < (w.alloc (.cells #[.int .i64 m] 3)).heap.size := by simp
  have HB0 : Hid (Below w.heap.size w (w.alloc (.cells #[.int .i64 m] 3))) := Lib.hid ((Below.refl _ _).alloc (Nat.le_refl _) _)
  have HM0 := Lib.hid hm0
  have HA := Lib.hid ha
  have HROW := Lib.hid hrow
  clear ho hm0 ha hrow
  go_enter Try.func45, Try.ntmps45
  go_wp2_with fail
  generalize w.alloc (.cells #[.int .i64 m] 3) = w1 at *
  refine (index_n a0 pb n cap w.heap.size m _ hn HA.out hp hs0 HM0.out (Lib.hid (fun j hj => by obtain ⟨m', h1, h2⟩ := HN.out j hj; have ho := HO.out; rw [HROW.out (by omega)] at ho; exact ⟨m', h1.at hj ho, h2⟩))).mono ?_
  rintro e w2 ⟨rfl, hb⟩
  have HB2 := Lib.hid (HB0.out.trans (hb.mono (by omega)))
  clear hb
  go_wp2
  go_ret
  exact ⟨rfl, HB2.out⟩
set_option maxRecDepth 100000 in
theorem left_c (cb at0 n : Nat) (wd tk : Int) (v : Value) (xs : List Value) (w : World) (h1 : 0 ≤ tk) (h2 : tk ≤ wd) (h3 : wd ≤ 65536) (HC : Hid (CaAt w cb at0 wd tk v n xs)) :
    Calls Try.prog 25 #[.pointer (some ⟨cb, 0, none⟩)] w fun e w' => e = .returned (.int .i64 (wd - tk)) ∧ ∃ q, w' = w.drewN q := by
  obtain ⟨h0, _, a1, a2, _, _, _, _⟩ := HC.out
  go_enter Try.func25, Try.ntmps25
  go_wp2
  go_quiet (fail)
  go_wp2
  go_ret
  exact ⟨rfl, _, rfl⟩
def NewC (at0 : Nat) (wd : Int) (w : World) (e : Ending) (w' : World) : Prop := ∃ cb, e = .returned (.tuple #[.pointer (some ⟨cb, 0, none⟩), .int .i64 0]) ∧ w.heap.size ≤ cb ∧ CaAt w' cb at0 wd 0 (.slice none 0 0) 0 [] ∧ Below w.heap.size w w'
set_option maxRecDepth 100000 in
theorem cnew_c (at0 : Nat) (wd : Int) (w : World) (h1 : at0 % 64 = 0) (h2 : 0 ≤ wd) (h3 : wd ≤ 65536) (h4 : wd % 16 = 0) : Calls Try.prog 24 #[.int .u64 at0, .int .i64 wd] w (NewC at0 wd w) := by
  have i1 : (at0 : Int) % 64 = 0 := by omega
  have d1 : decide (wd < 0) = false := decide_eq_false (by omega)
  have d2 : decide ((65536 : Int) < wd) = false := decide_eq_false (by omega)
  go_enter Try.func24, Try.ntmps24
  go_wp2
  refine bodyPost_ret (v := .tuple #[.pointer (some ⟨w.heap.size, 0, none⟩), .int .i64 0]) (by simp [results, Try.results24, go_sem]) rfl ⟨w.heap.size, rfl, Nat.le_refl _, ⟨by simp, World.cell?_alloc_at _ _ _ _ rfl, World.cell?_alloc_at _ _ _ _ rfl, World.cell?_alloc_at _ _ _ _ rfl, World.cell?_alloc_at _ _ _ _ rfl, World.frozen?_alloc_at _ _ _ _ rfl, World.frozen?_alloc_at _ _ _ _ rfl, World.ownsRow_nil _ _ _ _⟩, (Below.refl _ _).alloc (Nat.le_refl _) _⟩
end Go.Proofs.Ytpjfjdncdiemlaa
