import Derived.StillTailTactics
import Derived.Laws.BitsLemmas
import Derived.IntWalk
import Derived.Laws.BitsAllLaws
import Derived.Deep.DrawnRows
import Derived.Test.YtpiafgmncfibmaaXf
import Derived.Test.YtpiafgmncfibmaaXg
import Derived.Test.YtpiafgmncfibmaaRows
import Derived.WalkKit
import Derived.ProofKit
import Derived.OpenShut
import Derived.Deep.QuietTactic
import Derived.BigQuiet
import Derived.Outline
import Derived.WalkSmall
import Derived.WalkLawsBesides
import Derived.WalkSpells
import Derived.BigGuardPart
import Derived.RegionTactic
import Derived.Deep.RegionHeld3
import Derived.Lib.Hide
import Derived.Deep.MidRow
import Derived.Below
import Derived.Deep.RegionWith
import Derived.Deep.OwnRows
import Derived.Deep.AppendLies
import Derived.Deep.RegionLaw
import Derived.Deep.CutBlock
import Derived.Deep.DeepCutAuto
namespace Go.Proofs.Ytpiafgmncfibmaa.Vf
open Go.ChangeShapes Go.WideShapes Go.ChangeAt Go.RowKit
set_option linter.unusedVariables false

/-- A right program's types are types. -/
structure Tys (P : Pg) : Prop where
  p : ∀ i, i < P.nm → ∀ j, j < P.pn i → P.pt i j = 1 ∨ P.pt i j = 2
  l : ∀ i, i < P.nm → ∀ j, j < P.ln i → P.lt i j = 1 ∨ P.lt i j = 2
  f : ∀ i, i < P.nc → ∀ j, j < P.nf i → P.ft i j = 1 ∨ P.ft i j = 2
theorem tys_of {P : Pg} (h : P.chk = 0) : Tys P := by
  unfold Pg.chk at h
  split at h
  · cases h
  split at h
  · cases h
  split at h
  · cases h
  split at h
  · cases h
  split at h
  · cases h
  split at h
  · rename_i h6
    exact absurd h h6
  split at h
  · cases h
  rename_i hF
  split at h
  · cases h
  rename_i hT
  have hT' : P.wrongT = false := by simpa using hT
  have hF' : P.wrongF = false := by simpa using hF
  unfold Pg.wrongT at hT'
  unfold Pg.wrongF at hF'
  have h1 := anyN_n hT'
  have h2 := anyN_n hF'
  refine ⟨fun i hi j hj => ?_, fun i hi j hj => ?_, fun i hi j hj => ?_⟩
  · have := h1 i hi
    unfold wrongM at this
    have := anyN_n (Bool.or_eq_false_iff.1 this).1 j hj
    exact isT_y (by simpa using this)
  · have := h1 i hi
    unfold wrongM at this
    have := anyN_n (Bool.or_eq_false_iff.1 this).2 j hj
    exact isT_y (by simpa using this)
  · have := anyN_n (h2 i hi) j hj
    exact isT_y (by simpa using this)
theorem takes_ne {P : Pg} (hT : Tys P) (hR : ∀ i, i < P.nm → P.rt i ≠ -1) (m c : Nat) (a b : Int) (hm : m < P.nm) (hN : nmB P m c a b = true) (h6 : c ≠ 6) (h7 : c ≠ 7) (h8 : c ≠ 8) : ∀ x, x ∈ takes P m c a b → x ≠ -1 := by
  intro x hx
  by_cases h5 : c = 5
  · subst h5
    have hi : isIn a (P.pn m + P.ln m) = true := hN
    obtain ⟨k, rfl, hk⟩ := isIn_y hi
    have hx : x ∈ [loc P m (k : Int).toNat] := hx
    rw [List.mem_singleton] at hx
    subst hx
    rw [Int.toNat_natCast]
    unfold loc
    split
    · rename_i h; rcases hT.p m hm k h with q | q <;> rw [q] <;> decide
    · rcases hT.l m hm (k - P.pn m) (by omega) with q | q <;> rw [q] <;> decide
  by_cases h27 : c = 27
  · subst h27
    have hi : isIn a P.nm = true := hN
    obtain ⟨k, rfl, hk⟩ := isIn_y hi
    have hx : x ∈ parL P (k : Int).toNat := hx
    rw [Int.toNat_natCast] at hx
    unfold parL at hx
    obtain ⟨j, hj, rfl⟩ := List.mem_map.1 hx
    rw [List.mem_range] at hj
    rcases hT.p k hk j hj with q | q <;> rw [q] <;> decide
  by_cases h28 : c = 28
  · subst h28
    have hx : x ∈ valL (P.rt m) := hx
    unfold valL at hx
    split at hx
    · cases hx
    · rw [List.mem_singleton] at hx
      subst hx
      exact hR m hm
  by_cases h31 : c = 31
  · subst h31
    have hN : (isIn a P.nc && isIn b (P.nf a.toNat)) = true := hN
    obtain ⟨ha, hb⟩ := Bool.and_eq_true_iff.1 hN
    obtain ⟨k, rfl, hk⟩ := isIn_y ha
    rw [show ((k : Int).toNat) = k from Int.toNat_natCast k] at hb
    obtain ⟨j, rfl, hj⟩ := isIn_y hb
    have hx : x ∈ [2, P.ft (k : Int).toNat (j : Int).toNat] := hx
    rw [Int.toNat_natCast, Int.toNat_natCast] at hx
    rcases List.mem_cons.1 hx with rfl | hx
    · decide
    · rw [List.mem_singleton] at hx
      subst hx
      rcases hT.f k hk j hj with q | q <;> rw [q] <;> decide
  by_cases h34 : c = 34
  · subst h34
    have hN : decide (a = 1 ∨ a = 2) = true := hN
    have ha := of_decide_eq_true hN
    have hx : x ∈ [2, 1, a] := hx
    simp only [List.mem_cons, List.not_mem_nil, or_false] at hx
    rcases hx with rfl | rfl | rfl
    · decide
    · decide
    · rcases ha with rfl | rfl <;> decide
  unfold takes at hx
  rw [if_neg h5, if_neg (show ¬ (c = 6 ∨ c = 7) by omega), if_neg h8, if_neg h27, if_neg h28, if_neg h31, if_neg h34] at hx
  repeat' split at hx
  all_goals
    simp only [List.mem_cons, List.not_mem_nil, or_false] at hx <;> omega
theorem firstE_all {E : Nat → Int} : ∀ {n : Nat}, firstE n E = 0 → ∀ i, i < n → E i = 0
  | 0, _, i, hi => absurd hi (Nat.not_lt_zero i)
  | n + 1, h, i, hi => by
    rw [firstE_succ] at h
    by_cases h0 : firstE n E = 0
    · rw [if_pos h0] at h
      by_cases hin : i = n
      · rw [hin]; exact h
      · exact firstE_all h0 i (by omega)
    · rw [if_neg h0] at h
      exact absurd h h0
theorem rt_ne {P : Pg} (h : P.chk = 0) : ∀ i, i < P.nm → P.rt i ≠ -1 := fun i hi hr => by
  unfold Pg.chk at h
  split at h
  · cases h
  split at h
  · cases h
  split at h
  · cases h
  split at h
  · cases h
  split at h
  · cases h
  split at h
  · rename_i h6
    exact absurd h h6
  rename_i h6
  have hE : P.err i = 0 := firstE_all (Classical.not_not.1 h6) i hi
  unfold Pg.err chkM at hE
  rw [hr] at hE
  split at hE
  · cases hE
  · rw [if_pos (.inr (by decide))] at hE
    cases hE

structure EfX (P : Pg) (A : Ad) (c : Nat) (a b sz : Int) (sa : Option Addr) (n sc : Nat) (hh : Int) (w V : World) : Prop where
  p : Bx V w.heap.size #[.slice A.pa P.np A.pc, .slice A.ca P.nc A.cc, .slice A.ma P.nm A.mc] 26
  o : Bx V (w.heap.size + 1) #[.int .i64 c, .int .i64 a, .int .i64 b, .int .i64 sz] 141
  s : Bx V (w.heap.size + 1 + 1) #[.slice sa n sc, .int .i64 hh] 72
  r : Bx V (w.heap.size + 1 + 1 + 1) #[.slice none 0 0, .int .i64 0] 72
  b : Below w.heap.size w V
theorem EfX.below {P : Pg} {A : Ad} {c : Nat} {a b sz : Int} {sa : Option Addr} {n sc : Nat} {hh : Int} {w V V' : World} (h : EfX P A c a b sz sa n sc hh w V) (hb : Below V.heap.size V V') : EfX P A c a b sz sa n sc hh w V' :=
  ⟨h.p.below hb, h.o.below hb, h.s.below hb, h.r.below hb, h.b.trans (hb.mono h.b.size)⟩
theorem EfX.new (P : Pg) (A : Ad) (c : Nat) (a b sz : Int) (sa : Option Addr) (n sc : Nat) (hh : Int) (w : World) : EfX P A c a b sz sa n sc hh w ((((w.alloc (.cells #[.slice A.pa P.np A.pc, .slice A.ca P.nc A.cc, .slice A.ma P.nm A.mc] 26)).alloc (.cells #[.int .i64 c, .int .i64 a, .int .i64 b, .int .i64 sz] 141)).alloc (.cells #[.slice sa n sc, .int .i64 hh] 72)).alloc (.cells #[.slice none 0 0, .int .i64 0] 72)) := by
  refine ⟨(((Bx.new w _ _).alloc _).alloc _).alloc _, ?_, ?_, ?_, ((((Below.refl _ _).alloc (Nat.le_refl _) _).alloc (by simp) _).alloc (by simp; omega) _).alloc (by simp; omega) _⟩
  · have := Bx.new (w.alloc (.cells #[.slice A.pa P.np A.pc, .slice A.ca P.nc A.cc, .slice A.ma P.nm A.mc] 26)) #[.int .i64 c, .int .i64 a, .int .i64 b, .int .i64 sz] 141
    rw [World.size_alloc] at this
    exact (this.alloc _).alloc _
  · have := Bx.new ((w.alloc (.cells #[.slice A.pa P.np A.pc, .slice A.ca P.nc A.cc, .slice A.ma P.nm A.mc] 26)).alloc (.cells #[.int .i64 c, .int .i64 a, .int .i64 b, .int .i64 sz] 141)) #[.slice sa n sc, .int .i64 hh] 72
    rw [World.size_alloc, World.size_alloc] at this
    exact this.alloc _
  · have := Bx.new (((w.alloc (.cells #[.slice A.pa P.np A.pc, .slice A.ca P.nc A.cc, .slice A.ma P.nm A.mc] 26)).alloc (.cells #[.int .i64 c, .int .i64 a, .int .i64 b, .int .i64 sz] 141)).alloc (.cells #[.slice sa n sc, .int .i64 hh] 72)) #[.slice none 0 0, .int .i64 0] 72
    rw [World.size_alloc, World.size_alloc, World.size_alloc] at this
    exact this
theorem EfX.far {P : Pg} {A : Ad} {c : Nat} {a b sz : Int} {sa : Option Addr} {n sc : Nat} {hh : Int} {w V : World} (h : EfX P A c a b sz sa n sc hh w V) {g : Nat} (hg : w.heap.size + 1 + 1 + 1 < g) (k : Nat) (v : Value) : EfX P A c a b sz sa n sc hh w (V.setCell ⟨g, k, none⟩ v) :=
  ⟨h.p.far (by omega) k v, h.o.far (by omega) k v, h.s.far (by omega) k v, h.r.far (by omega) k v, h.b.setCell (p := ⟨g, k, none⟩) (show w.heap.size ≤ g by omega) v⟩
/-- A box made beside a row that grows. -/
def PendB (V : World) (v : Value) (g : Nat) (C : Array Value) : Prop := Bx V g C 72 ∧ some g ≠ v.ownBlock
/-- What is known behind the store of the new shape. -/
structure AfT (P : Pg) (A : Ad) (c : Nat) (a b sz : Int) (sa : Option Addr) (n sc : Nat) (hh : Int) (w V : World) (g : Nat) (a' : Option Addr) (N c' : Nat) (h' : Int) (L : List Int) : Prop where
  e : EfX P A c a b sz sa n sc hh w V
  x : Bx V g #[.slice a' N c', .int .i64 h'] 72
  i : Ints V a' L
  ne : ∀ p, a' = some p → p.block ≠ g
  gr : w.heap.size + 1 + 1 + 1 < g
  af : ∀ p, a' = some p → w.heap.size + 1 + 1 + 1 < p.block
theorem AfT.held {P : Pg} {A : Ad} {c : Nat} {a b sz : Int} {sa : Option Addr} {n sc : Nat} {hh : Int} {w V : World} {g : Nat} {a' : Option Addr} {N c' : Nat} {h' : Int} {L : List Int} (h : AfT P A c a b sz sa n sc hh w V g a' N c' h' L) (h2 : Int) : AfT P A c a b sz sa n sc hh w (V.setCell ⟨g, 1, none⟩ (.int .i64 h2)) g a' N c' h2 L :=
  ⟨h.e.far h.gr _ _, h.x.set 1 (.int .i64 h2), h.i.far h.ne _ _, h.ne, h.gr, h.af⟩
theorem AfT.mk' {P : Pg} {A : Ad} {c : Nat} {a b sz : Int} {sa : Option Addr} {n sc : Nat} {hh : Int} {w u V : World} {g B N c' : Nat} {a' : Option Addr} {L : List Int} {h1 : Int} (he : EfX P A c a b sz sa n sc hh w V) (hx : PendB V (.slice a' N c') g #[.slice none 0 0, .int .i64 0]) (ho : OwX u V B N (.slice a' N c') L) (hu : w.heap.size + 1 + 1 + 1 < u.heap.size) (hg : u.heap.size ≤ g) (hL : L.length = N) :
    AfT P A c a b sz sa n sc hh w ((V.setCell ⟨g, 0, none⟩ (.slice a' N c')).setCell ⟨g, 1, none⟩ (.int .i64 h1)) g a' N c' h1 L := by
  have hne : ∀ p, a' = some p → p.block ≠ g := fun p hp e => hx.2 (by rw [hp]; exact congrArg some e.symm)
  have hi : Ints V a' L := Ints.own ho.o hL
  exact ⟨(he.far (by omega) _ _).far (by omega) _ _, (hx.1.set 0 (.slice a' N c')).set 1 (.int .i64 h1), (hi.far hne _ _).far hne _ _, hne, by omega, fun p hp => by have := own_past0 ho.o p hp; have := ho.b0; omega⟩
theorem fit_any1 (l : List Int) (k : Nat) (hk : k + 1 = l.length) : fitT [-1] (l.drop k) = true := by
  have h : (l.drop k).length = 1 := by rw [List.length_drop]; omega
  match l.drop k, h with
  | [x], _ => rfl
theorem fit_any2 (l : List Int) (k : Nat) (hk : k + 2 = l.length) : fitT [-1, -1] (l.drop k) = true := by
  have h : (l.drop k).length = 2 := by rw [List.length_drop]; omega
  match l.drop k, h with
  | [x, y], _ => rfl
theorem eff_any {P : Pg} {m c : Nat} {a b : Int} {s : Sh} (hc : c = 6 ∨ c = 7 ∨ c = 8) : effE P m c a b s = (if s.l.length < anyK c then 22 else 0) ∧ (¬ s.l.length < anyK c → effS P m c a b s = ⟨anyL c s.l, s.h⟩) := by
  obtain ⟨l, h⟩ := s
  have hd : ∀ k i, (l.drop k).getD i 0 = l.getD (k + i) 0 := fun k i => getD_drop l k i
  have fit1 : ∀ k, k + 1 = l.length → fitT [-1] (l.drop k) = true := fun k hk => fit_any1 l k hk
  have fit2 : ∀ k, k + 2 = l.length → fitT [-1, -1] (l.drop k) = true := fun k hk => fit_any2 l k hk
  rcases hc with rfl | rfl | rfl
  · have ht : takes P m 6 a b = [-1] := rfl
    unfold effE effS
    simp only [ht, List.length_singleton]
    show _ = (if l.length < 1 then _ else _) ∧ (¬ l.length < 1 → _)
    by_cases hl : l.length < 1
    · rw [if_pos hl, if_pos hl]; exact ⟨rfl, fun q => absurd hl q⟩
    · rw [if_neg hl, if_neg hl, fit1 (l.length - 1) (by omega)]
      refine ⟨rfl, fun _ => ?_⟩
      show Sh.mk (l.take (l.length - 1) ++ [(l.drop (l.length - 1)).getD 0 0, (l.drop (l.length - 1)).getD 0 0]) h = Sh.mk (l ++ [l.getD (l.length - 1) 0]) h
      congr 1
      have e1 : [(l.drop (l.length - 1)).getD 0 0] = l.drop (l.length - 1) := by
        have h3 : (l.drop (l.length - 1)).length = 1 := by rw [List.length_drop]; omega
        match hq : l.drop (l.length - 1), h3 with
        | [x], _ => rfl
      rw [show [(l.drop (l.length - 1)).getD 0 0, (l.drop (l.length - 1)).getD 0 0] = [(l.drop (l.length - 1)).getD 0 0] ++ [(l.drop (l.length - 1)).getD 0 0] from rfl, ← List.append_assoc]
      congr 1
      · rw [e1, List.take_append_drop]
      · rw [hd]; rfl
  · have ht : takes P m 7 a b = [-1] := rfl
    unfold effE effS
    simp only [ht, List.length_singleton]
    show _ = (if l.length < 1 then _ else _) ∧ (¬ l.length < 1 → _)
    by_cases hl : l.length < 1
    · rw [if_pos hl, if_pos hl]; exact ⟨rfl, fun q => absurd hl q⟩
    · rw [if_neg hl, if_neg hl, fit1 (l.length - 1) (by omega)]
      refine ⟨rfl, fun _ => ?_⟩
      show Sh.mk (l.take (l.length - 1) ++ []) h = Sh.mk (l.take (l.length - 1)) h
      rw [List.append_nil]
  · have ht : takes P m 8 a b = [-1, -1] := rfl
    unfold effE effS
    simp only [ht]
    show (if l.length < 2 then _ else _) = (if l.length < 2 then _ else _) ∧ (¬ l.length < 2 → _)
    by_cases hl : l.length < 2
    · rw [if_pos hl, if_pos hl]; exact ⟨rfl, fun q => absurd hl q⟩
    · rw [if_neg hl, if_neg hl, show ([-1, -1] : List Int).length = 2 from rfl, fit2 (l.length - 2) (by omega)]
      refine ⟨rfl, fun _ => ?_⟩
      show Sh.mk (l.take (l.length - 2) ++ [(l.drop (l.length - 2)).getD 1 0, (l.drop (l.length - 2)).getD 0 0]) h = Sh.mk (l.take (l.length - 2) ++ [l.getD (l.length - 1) 0, l.getD (l.length - 2) 0]) h
      rw [hd, hd, show l.length - 2 + 1 = l.length - 1 by omega]
      rfl
theorem puts_nil {P : Pg} {m c : Nat} {a b : Int} (t : List Int) (h6 : c ≠ 6) (h8 : c ≠ 8) : puts P m c a b t = puts P m c a b [] := by
  unfold puts
  rw [if_neg h6, if_neg h8, if_neg h6, if_neg h8]
theorem step0 : True := trivial
end Go.Proofs.Ytpiafgmncfibmaa.Vf
