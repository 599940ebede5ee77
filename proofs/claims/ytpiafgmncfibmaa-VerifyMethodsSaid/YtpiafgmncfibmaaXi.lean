import Derived.StillTailTactics
import Derived.Laws.BitsLemmas
import Derived.IntWalk
import Derived.Laws.BitsAllLaws
import Derived.Deep.DrawnRows
import Derived.Test.YtpiafgmncfibmaaXh
import Derived.Test.YtpiafgmncfibmaaRows
import Derived.WalkKit
import Derived.ProofKit
import Derived.OpenShut
import Derived.Deep.QuietTactic
import Derived.BigQuiet
import Derived.Outline
import Derived.WalkSmall
import Derived.WalkLawsBesides
import Derived.WalkSpells
import Derived.BigGuardPart
import Derived.RegionTactic
import Derived.Deep.RegionHeld3
import Derived.Lib.Hide
import Derived.Deep.MidRow
import Derived.Below
import Derived.Deep.RegionWith
import Derived.Deep.OwnRows
import Derived.Deep.AppendLies
import Derived.Deep.RegionLaw
import Derived.Deep.CutBlock
import Derived.Deep.DeepCutAuto
namespace Go.Proofs.Ytpiafgmncfibmaa.Vf
open Go.ChangeShapes Go.WideShapes Go.ChangeAt Go.RowKit
set_option linter.unusedVariables false
theorem OwX.app2 {w V : World} {B n : Nat} {v : Value} {xs : List Int} (h : OwX w V B n v xs) {a : Option Addr} {l : List Int} {N : Nat} (hI : Ints V a l) (hN : l.length = N) (hn : n + N ≤ 100000) (c : Nat) :
    ∃ v' V', (Builtin.append_ #[48, 48] 48 #[v, .slice a N c]).run Try.prog V = .ok v' V' ∧ OwX w V' B (n + N) v' (xs ++ l) ∧ Below B V V' ∧ ∀ g C, PendB V v g C → PendB V' v' g C := by
  subst hN
  obtain ⟨v', V', h1, h2, h3, h4⟩ := app_ints V B n v xs l a c h.o hI hn h.b1
  have hb := own_below h.o h.b1 h3
  refine ⟨v', V', h1, ⟨h2, h.b0, Nat.le_trans h.b1 hb.size⟩, hb, fun g C hp => ⟨(h3.block g hp.1.lt hp.2).trans hp.1, ?_⟩⟩
  rcases h4 with h4 | h4
  · rw [h4]; exact hp.2
  · rw [h4]
    intro e
    injection e with e
    have := hp.1.lt
    omega
theorem Bx.newg (V : World) (C : Array Value) (e : Nat) (g : Nat) (hg : V.heap.size = g) : Bx (V.alloc (.cells C e)) g C e := hg ▸ Bx.new V C e
theorem PendB.newg {w V : World} {B n : Nat} {v : Value} {xs : List Int} (g : Nat) (hg : V.heap.size = g) (h : OwX w V B n v xs) (C : Array Value) : PendB (V.alloc (.cells C 72)) v g C := ⟨Bx.newg V C 72 g hg, own_blk h.o (Nat.le_of_eq hg)⟩
theorem PendB.owng {V : World} {g : Nat} {C : Array Value} (k : Nat) (hk : V.heap.size = k) (h : Bx V g C 72) : PendB (V.alloc (.cells #[] 3)) (.slice (some ⟨k, 0, none⟩) 0 0) g C := ⟨h.alloc _, fun e => by
  have h1 := h.lt
  have h2 : some g = some k := e.trans rfl
  injection h2 with h2
  omega⟩
theorem pendB_lt {V : World} {v : Value} {g : Nat} {C : Array Value} (h : PendB V v g C) : g < V.heap.size := h.1.lt
set_option maxRecDepth 100000 in
set_option maxHeartbeats 8000000 in
theorem effectx_c (P : Pg) (A : Ad) (m c : Nat) (a b sz : Int) (s : Sh) (sa : Option Addr) (sc : Nat) (w : World) (h : PgAt w P A) (hf : Fits P A) (hca : Caps P A) (hm : m < P.nm) (hpl : P.pn m + P.ln m ≤ 40) (hT : Tys P) (hRt : ∀ i, i < P.nm → P.rt i ≠ -1) (hN : nmB P m c a b = true) (hc41 : c < 41) (hI : Ints w sa s.l) (hsc : s.l.length ≤ sc) (hs2 : s.l.length ≤ 20000) (hh0 : 0 ≤ s.h) (hh1 : s.h ≤ 10) :
    Calls Try.prog 114 #[.agg (P.cells A), .int .i64 m, .agg (ret4 c a b sz), .agg #[.slice sa s.l.length sc, .int .i64 s.h]] w (EffR P m c a b s w) := by
  have HErr : Hid (∀ x w', effE P m c a b s = x → x ≠ 0 → Below w.heap.size w w' → EffR P m c a b s w (.returned (.tuple #[.agg #[.slice none 0 0, .int .i64 0], .int .i64 x])) w') := Lib.hid fun x w' he h0 hb => EffR.err he h0 hb
  have HM1 : Hid (∀ V, Calls Try.prog 87 #[.int .i64 m, .int .i64 (P.nm : Nat)] V fun e w' => e = .returned (.bool true) ∧ w' = V) := Lib.hid fun V => (show isIn m P.nm = true from decide_eq_true ⟨by omega, by omega⟩) ▸ in_c m P.nm V
  have HNm : Hid (∀ V, Below w.heap.size w V → Calls Try.prog 90 #[.agg #[.slice A.pa P.np A.pc, .slice A.ca P.nc A.cc, .slice A.ma P.nm A.mc], .int .i64 m, .agg #[.int .i64 c, .int .i64 a, .int .i64 b, .int .i64 sz]] V fun e w' => e = .returned (.bool true) ∧ Below V.heap.size V w') := Lib.hid fun V hb => hN ▸ named_c P A m c a b sz V (h.kept (Kept.of hb)) hf hm hpl
  have HIs : Hid (∀ V, Below w.heap.size w V → Ints V sa s.l) := Lib.hid fun V hb => hI.kept (Kept.of hb)
  have HB0 := Lib.hid (EfX.new P A c a b sz sa s.l.length sc s.h w)
  have HOk : Hid (∀ (a' : Option Addr) (c' n' : Nat) (h' : Int) (w' : World), effE P m c a b s = 0 → (effS P m c a b s).l.length = n' → (effS P m c a b s).h = h' → Ints w' a' (effS P m c a b s).l → n' ≤ c' → (∀ p, a' = some p → w.heap.size ≤ p.block) → Below w.heap.size w w' → EffR P m c a b s w (.returned (.tuple #[.agg #[.slice a' n' c', .int .i64 h'], .int .i64 0])) w') := Lib.hid fun a' c' n' h' w' h1 h2 h3 h4 h5 h6 h7 => EffR.ok h1 h2 h3 h4 h5 h6 h7
  generalize EffR P m c a b s w = R at HErr HOk ⊢
  have dc0 : decide ((c : Int) < 0) = false := decide_eq_false (by omega)
  have dc1 : decide ((40 : Int) < (c : Int)) = false := decide_eq_false (by omega)
  have dc2 : decide (40 < c) = false := decide_eq_false (by omega)
  by_cases hc6 : c = 6 ∨ c = 7 ∨ c = 8
  · obtain ⟨hEE, hES⟩ := eff_any (P := P) (m := m) (a := a) (b := b) (s := s) hc6
    have HE := Lib.hid hEE
    have HS := Lib.hid hES
    have HAn : Hid (∀ V, Below w.heap.size w V → Calls Try.prog 124 #[.int .i64 c, .slice sa s.l.length sc] V (AnyR c s.l V)) := Lib.hid fun V hb => any_r c hc6 s.l sa sc V (HIs.out V hb) hsc hs2
    generalize effE P m c a b s = EE at HErr HE HOk
    generalize effS P m c a b s = ES at HS HOk
    clear h hf hca hN hI hEE hES
    obtain ⟨l, hh⟩ := s
    dsimp only at HE HS HIs HB0 hsc hs2 hh0 hh1 HAn ⊢
    have d6 : decide ((6 : Int) ≤ (c : Int)) = true := decide_eq_true (by omega)
    have d8 : decide ((c : Int) ≤ 8) = true := decide_eq_true (by omega)
    have d6' : decide (6 ≤ c) = true := decide_eq_true (by omega)
    have d8' : decide (c ≤ 8) = true := decide_eq_true (by omega)
    clear hc6
    obtain ⟨n, hn⟩ : ∃ n : Nat, l.length = n := ⟨_, rfl⟩
    rw [hn] at HE HS hsc hs2 HB0 HAn ⊢
    have HN := Lib.hid hn
    clear hn
    show Calls Try.prog 114 #[.agg #[.slice A.pa P.np A.pc, .slice A.ca P.nc A.cc, .slice A.ma P.nm A.mc], .int .i64 m, .agg #[.int .i64 c, .int .i64 a, .int .i64 b, .int .i64 sz], .agg #[.slice sa n sc, .int .i64 hh]] w R
    obtain ⟨W0, hW0⟩ : ∃ W, W = ((((w.alloc (.cells #[.slice A.pa P.np A.pc, .slice A.ca P.nc A.cc, .slice A.ma P.nm A.mc] 26)).alloc (.cells #[.int .i64 c, .int .i64 a, .int .i64 b, .int .i64 sz] 141)).alloc (.cells #[.slice sa n sc, .int .i64 hh] 72)).alloc (.cells #[.slice none 0 0, .int .i64 0] 72)) := ⟨_, rfl⟩
    rw [← hW0] at HB0
    have HW0 := Lib.hid hW0
    clear hW0
    go_enter Try.func114, Try.ntmps114
    go_upto_region 1 with fail
    rw [← HW0.out]
    have HB := HB0
    have p0 : W0.cell? ⟨w.heap.size, 0, none⟩ = some (.slice A.pa P.np A.pc) := HB.out.p.cell 0
    have p1 : W0.cell? ⟨w.heap.size, 1, none⟩ = some (.slice A.ca P.nc A.cc) := HB.out.p.cell 1
    have p2 : W0.cell? ⟨w.heap.size, 2, none⟩ = some (.slice A.ma P.nm A.mc) := HB.out.p.cell 2
    have o0 : W0.cell? ⟨w.heap.size + 1, 0, none⟩ = some (.int .i64 c) := HB.out.o.cell 0
    have o1 : W0.cell? ⟨w.heap.size + 1, 1, none⟩ = some (.int .i64 a) := HB.out.o.cell 1
    have o2 : W0.cell? ⟨w.heap.size + 1, 2, none⟩ = some (.int .i64 b) := HB.out.o.cell 2
    have o3 : W0.cell? ⟨w.heap.size + 1, 3, none⟩ = some (.int .i64 sz) := HB.out.o.cell 3
    have s0 : W0.cell? ⟨w.heap.size + 1 + 1, 0, none⟩ = some (.slice sa n sc) := HB.out.s.cell 0
    have s1 : W0.cell? ⟨w.heap.size + 1 + 1, 1, none⟩ = some (.int .i64 hh) := HB.out.s.cell 1
    go_wp2_with fail
    refine (HM1.out _).mono ?_
    rintro e W1 ⟨rfl, rfl⟩
    go_wp2_with fail
    refine (HNm.out _ HB.out.b).mono ?_
    rintro e W2 ⟨rfl, hb1⟩
    replace HB : Hid (EfX P A c a b sz sa n sc hh w W2) := Lib.hid (HB.out.below hb1)
    clear p0 p1 p2 o0 o1 o2 o3 s0 s1
    have p0 : W2.cell? ⟨w.heap.size, 0, none⟩ = some (.slice A.pa P.np A.pc) := HB.out.p.cell 0
    have p1 : W2.cell? ⟨w.heap.size, 1, none⟩ = some (.slice A.ca P.nc A.cc) := HB.out.p.cell 1
    have p2 : W2.cell? ⟨w.heap.size, 2, none⟩ = some (.slice A.ma P.nm A.mc) := HB.out.p.cell 2
    have o0 : W2.cell? ⟨w.heap.size + 1, 0, none⟩ = some (.int .i64 c) := HB.out.o.cell 0
    have o1 : W2.cell? ⟨w.heap.size + 1, 1, none⟩ = some (.int .i64 a) := HB.out.o.cell 1
    have o2 : W2.cell? ⟨w.heap.size + 1, 2, none⟩ = some (.int .i64 b) := HB.out.o.cell 2
    have o3 : W2.cell? ⟨w.heap.size + 1, 3, none⟩ = some (.int .i64 sz) := HB.out.o.cell 3
    have s0 : W2.cell? ⟨w.heap.size + 1 + 1, 0, none⟩ = some (.slice sa n sc) := HB.out.s.cell 0
    have s1 : W2.cell? ⟨w.heap.size + 1 + 1, 1, none⟩ = some (.int .i64 hh) := HB.out.s.cell 1
    clear hb1
    have HBW2 : Hid (w.heap.size ≤ W2.heap.size) := Lib.hid HB.out.b.size
    have HBL2 : Hid (w.heap.size + 1 + 1 + 1 < W2.heap.size) := Lib.hid HB.out.r.lt
    go_wp2_with fail
    refine (HAn.out _ HB.out.b).mono ?_
    rintro e W3 hA
    unfold AnyR at hA
    rw [HN.out] at hA
    by_cases hs : n < anyK c
    · rw [if_pos hs] at hA
      obtain ⟨rfl, hb1⟩ := hA
      obtain rfl : EE = 22 := HE.out.trans (if_pos hs)
      replace HB : Hid (EfX P A c a b sz sa n sc hh w W3) := Lib.hid (HB.out.below hb1)
      clear p0 p1 p2 o0 o1 o2 o3 s0 s1
      have p0 : W3.cell? ⟨w.heap.size, 0, none⟩ = some (.slice A.pa P.np A.pc) := HB.out.p.cell 0
      have p1 : W3.cell? ⟨w.heap.size, 1, none⟩ = some (.slice A.ca P.nc A.cc) := HB.out.p.cell 1
      have p2 : W3.cell? ⟨w.heap.size, 2, none⟩ = some (.slice A.ma P.nm A.mc) := HB.out.p.cell 2
      have o0 : W3.cell? ⟨w.heap.size + 1, 0, none⟩ = some (.int .i64 c) := HB.out.o.cell 0
      have o1 : W3.cell? ⟨w.heap.size + 1, 1, none⟩ = some (.int .i64 a) := HB.out.o.cell 1
      have o2 : W3.cell? ⟨w.heap.size + 1, 2, none⟩ = some (.int .i64 b) := HB.out.o.cell 2
      have o3 : W3.cell? ⟨w.heap.size + 1, 3, none⟩ = some (.int .i64 sz) := HB.out.o.cell 3
      have s0 : W3.cell? ⟨w.heap.size + 1 + 1, 0, none⟩ = some (.slice sa n sc) := HB.out.s.cell 0
      have s1 : W3.cell? ⟨w.heap.size + 1 + 1, 1, none⟩ = some (.int .i64 hh) := HB.out.s.cell 1
      clear hb1
      have r0 : W3.cell? ⟨w.heap.size + 1 + 1 + 1, 0, none⟩ = some (.slice none 0 0) := HB.out.r.cell 0
      have q0 : W3.frozen? ⟨w.heap.size + 1 + 1 + 1, 0, none⟩ = false := HB.out.r.frz 0
      have r1 : W3.cell? ⟨w.heap.size + 1 + 1 + 1, 1, none⟩ = some (.int .i64 0) := HB.out.r.cell 1
      have q1 : W3.frozen? ⟨w.heap.size + 1 + 1 + 1, 1, none⟩ = false := HB.out.r.frz 1
      go_wp2_with fail
      clear r0 r1 q0 q1
      have HR : Hid (Bx (W3.setCell ⟨w.heap.size + 1 + 1 + 1, 0, none⟩ (.slice none 0 0)) (w.heap.size + 1 + 1 + 1) #[.slice none 0 0, .int .i64 0] 72 ∧ Below w.heap.size w (W3.setCell ⟨w.heap.size + 1 + 1 + 1, 0, none⟩ (.slice none 0 0))) := Lib.hid ⟨HB.out.r.set 0 _, HB.out.b.setCell (p := ⟨w.heap.size + 1 + 1 + 1, 0, none⟩) (by simp; omega) _⟩
      generalize W3.setCell ⟨w.heap.size + 1 + 1 + 1, 0, none⟩ (.slice none 0 0) = z1 at HR ⊢
      replace HR : Hid (Bx (z1.setCell ⟨w.heap.size + 1 + 1 + 1, 1, none⟩ (.int .i64 0)) (w.heap.size + 1 + 1 + 1) #[.slice none 0 0, .int .i64 0] 72 ∧ Below w.heap.size w (z1.setCell ⟨w.heap.size + 1 + 1 + 1, 1, none⟩ (.int .i64 0))) := Lib.hid ⟨HR.out.1.set 1 _, HR.out.2.setCell (p := ⟨w.heap.size + 1 + 1 + 1, 1, none⟩) (by simp; omega) _⟩
      generalize z1.setCell ⟨w.heap.size + 1 + 1 + 1, 1, none⟩ (.int .i64 0) = z2 at HR ⊢
      have x0 : z2.cell? ⟨w.heap.size + 1 + 1 + 1, 0, none⟩ = some (.slice none 0 0) := HR.out.1.cell 0
      have x1 : z2.cell? ⟨w.heap.size + 1 + 1 + 1, 1, none⟩ = some (.int .i64 0) := HR.out.1.cell 1
      exact bodyPost_ret (v := .tuple #[.agg #[.slice none 0 0, .int .i64 0], .int .i64 22]) (by simp [results, Try.results114, go_sem, x0, x1]) rfl (HErr.out 22 _ (by first | exact rfl | trivial) (by decide) HR.out.2)
    · rw [if_neg hs] at hA
      obtain ⟨a7, c7, rfl, hi7, hc7, hf7, hb1⟩ := hA
      obtain rfl : EE = 0 := HE.out.trans (if_neg hs)
      replace HS : Hid (ES = ⟨anyL c l, hh⟩) := Lib.hid (HS.out hs)
      replace HB : Hid (EfX P A c a b sz sa n sc hh w W3) := Lib.hid (HB.out.below hb1)
      have H7 : Hid (Ints W3 a7 (anyL c l) ∧ (anyL c l).length ≤ c7 ∧ (∀ p, a7 = some p → w.heap.size ≤ p.block) ∧ ∀ p, a7 = some p → p.block ≠ w.heap.size + 1 + 1 + 1) := Lib.hid ⟨hi7, hc7, fun p hp => Nat.le_trans HBW2.out (hf7 p hp), fun p hp => by have := hf7 p hp; have := HBL2.out; omega⟩
      clear p0 p1 p2 o0 o1 o2 o3 s0 s1
      have p0 : W3.cell? ⟨w.heap.size, 0, none⟩ = some (.slice A.pa P.np A.pc) := HB.out.p.cell 0
      have p1 : W3.cell? ⟨w.heap.size, 1, none⟩ = some (.slice A.ca P.nc A.cc) := HB.out.p.cell 1
      have p2 : W3.cell? ⟨w.heap.size, 2, none⟩ = some (.slice A.ma P.nm A.mc) := HB.out.p.cell 2
      have o0 : W3.cell? ⟨w.heap.size + 1, 0, none⟩ = some (.int .i64 c) := HB.out.o.cell 0
      have o1 : W3.cell? ⟨w.heap.size + 1, 1, none⟩ = some (.int .i64 a) := HB.out.o.cell 1
      have o2 : W3.cell? ⟨w.heap.size + 1, 2, none⟩ = some (.int .i64 b) := HB.out.o.cell 2
      have o3 : W3.cell? ⟨w.heap.size + 1, 3, none⟩ = some (.int .i64 sz) := HB.out.o.cell 3
      have s0 : W3.cell? ⟨w.heap.size + 1 + 1, 0, none⟩ = some (.slice sa n sc) := HB.out.s.cell 0
      have s1 : W3.cell? ⟨w.heap.size + 1 + 1, 1, none⟩ = some (.int .i64 hh) := HB.out.s.cell 1
      clear hb1 hi7 hc7 hf7
      obtain ⟨N, hNl⟩ : ∃ N, (anyL c l).length = N := ⟨_, rfl⟩
      rw [hNl] at H7 ⊢
      have HNl := Lib.hid hNl
      clear hNl
      have r0 : W3.cell? ⟨w.heap.size + 1 + 1 + 1, 0, none⟩ = some (.slice none 0 0) := HB.out.r.cell 0
      have q0 : W3.frozen? ⟨w.heap.size + 1 + 1 + 1, 0, none⟩ = false := HB.out.r.frz 0
      have r1 : W3.cell? ⟨w.heap.size + 1 + 1 + 1, 1, none⟩ = some (.int .i64 0) := HB.out.r.cell 1
      have q1 : W3.frozen? ⟨w.heap.size + 1 + 1 + 1, 1, none⟩ = false := HB.out.r.frz 1
      go_wp2_with fail
      clear r0 r1 q0 q1 p0 p1 p2 o0 o1 o2 o3 s0 s1
      have HR : Hid (Bx (W3.setCell ⟨w.heap.size + 1 + 1 + 1, 0, none⟩ (.slice a7 N c7)) (w.heap.size + 1 + 1 + 1) #[.slice a7 N c7, .int .i64 0] 72 ∧ Below w.heap.size w (W3.setCell ⟨w.heap.size + 1 + 1 + 1, 0, none⟩ (.slice a7 N c7)) ∧ Ints (W3.setCell ⟨w.heap.size + 1 + 1 + 1, 0, none⟩ (.slice a7 N c7)) a7 (anyL c l)) := Lib.hid ⟨HB.out.r.set 0 _, HB.out.b.setCell (p := ⟨w.heap.size + 1 + 1 + 1, 0, none⟩) (by simp; omega) _, H7.out.1.far H7.out.2.2.2 _ _⟩
      generalize W3.setCell ⟨w.heap.size + 1 + 1 + 1, 0, none⟩ (.slice a7 N c7) = z1 at HR ⊢
      replace HR : Hid (Bx (z1.setCell ⟨w.heap.size + 1 + 1 + 1, 1, none⟩ (.int .i64 hh)) (w.heap.size + 1 + 1 + 1) #[.slice a7 N c7, .int .i64 hh] 72 ∧ Below w.heap.size w (z1.setCell ⟨w.heap.size + 1 + 1 + 1, 1, none⟩ (.int .i64 hh)) ∧ Ints (z1.setCell ⟨w.heap.size + 1 + 1 + 1, 1, none⟩ (.int .i64 hh)) a7 (anyL c l)) := Lib.hid ⟨HR.out.1.set 1 _, HR.out.2.1.setCell (p := ⟨w.heap.size + 1 + 1 + 1, 1, none⟩) (by simp; omega) _, HR.out.2.2.far H7.out.2.2.2 _ _⟩
      generalize z1.setCell ⟨w.heap.size + 1 + 1 + 1, 1, none⟩ (.int .i64 hh) = z2 at HR ⊢
      have x0 : z2.cell? ⟨w.heap.size + 1 + 1 + 1, 0, none⟩ = some (.slice a7 N c7) := HR.out.1.cell 0
      have x1 : z2.cell? ⟨w.heap.size + 1 + 1 + 1, 1, none⟩ = some (.int .i64 hh) := HR.out.1.cell 1
      refine bodyPost_ret (v := .tuple #[.agg #[.slice a7 N c7, .int .i64 hh], .int .i64 0]) (by simp [results, Try.results114, go_sem, x0, x1]) rfl ?_
      have hS := HS.out
      exact HOk.out a7 c7 N hh z2 (by first | exact rfl | trivial) (by rw [hS]; exact HNl.out) (by rw [hS]) (by rw [hS]; exact HR.out.2.2) H7.out.2.1 H7.out.2.2.1 HR.out.2.1
  have hc6' : c ≠ 6 := fun q => hc6 (.inl q)
  have hc7' : c ≠ 7 := fun q => hc6 (.inr (.inl q))
  have hc8' : c ≠ 8 := fun q => hc6 (.inr (.inr q))
  have HTk : Hid (∀ V, Below w.heap.size w V → Calls Try.prog 125 #[.agg #[.slice A.pa P.np A.pc, .slice A.ca P.nc A.cc, .slice A.ma P.nm A.mc], .int .i64 m, .agg #[.int .i64 c, .int .i64 a, .int .i64 b, .int .i64 sz]] V (Give2 (takes P m c a b) (puts P m c a b []) V)) := Lib.hid fun V hb => effect_r P A m c a b sz V (h.kept (Kept.of hb)) hf hca hm hN hc41 hc6' hc7' hc8' hpl
  have HNe : Hid (∀ x, x ∈ takes P m c a b → x ≠ -1) := Lib.hid (takes_ne hT hRt m c a b hm hN hc6' hc7' hc8')
  have HE : Hid (effE P m c a b s = if s.l.length < (takes P m c a b).length then 22 else if fitT (takes P m c a b) (s.l.drop (s.l.length - (takes P m c a b).length)) = false then 21 else if c = 36 ∧ 10 ≤ s.h ∨ c = 37 ∧ s.h = 0 then 25 else 0) := Lib.hid rfl
  have HS : Hid (effS P m c a b s = ⟨s.l.take (s.l.length - (takes P m c a b).length) ++ puts P m c a b [], heldN c s.h⟩) := Lib.hid (by unfold effS; rw [puts_nil _ hc6' hc8'])
  have hpu : (puts P m c a b []).length ≤ 2 := puts_len P m c a b []
  have HPu := Lib.hid hpu
  generalize effE P m c a b s = EE at HErr HE HOk
  generalize effS P m c a b s = ES at HS HOk
  obtain ⟨tk, htk⟩ : ∃ tk, takes P m c a b = tk := ⟨_, rfl⟩
  have htl := takes_len hf m c a b hN
  rw [htk] at HTk HE HS HNe htl
  obtain ⟨pu, hpue⟩ : ∃ pu, puts P m c a b [] = pu := ⟨_, rfl⟩
  rw [hpue] at HTk HS HPu
  clear htk h hf hca hN hI hpu hpue
  obtain ⟨l, hh⟩ := s
  dsimp only at HE HS HIs HB0 hsc hs2 hh0 hh1 ⊢
  obtain ⟨n, hn⟩ : ∃ n : Nat, l.length = n := ⟨_, rfl⟩
  rw [hn] at HE HS hsc hs2 HB0 ⊢
  have HN := Lib.hid hn
  clear hn
  show Calls Try.prog 114 #[.agg #[.slice A.pa P.np A.pc, .slice A.ca P.nc A.cc, .slice A.ma P.nm A.mc], .int .i64 m, .agg #[.int .i64 c, .int .i64 a, .int .i64 b, .int .i64 sz], .agg #[.slice sa n sc, .int .i64 hh]] w R
  obtain ⟨W0, hW0⟩ : ∃ W, W = ((((w.alloc (.cells #[.slice A.pa P.np A.pc, .slice A.ca P.nc A.cc, .slice A.ma P.nm A.mc] 26)).alloc (.cells #[.int .i64 c, .int .i64 a, .int .i64 b, .int .i64 sz] 141)).alloc (.cells #[.slice sa n sc, .int .i64 hh] 72)).alloc (.cells #[.slice none 0 0, .int .i64 0] 72)) := ⟨_, rfl⟩
  rw [← hW0] at HB0
  have HW0 := Lib.hid hW0
  clear hW0
  have HD : Hid (c < 6 ∨ 8 < c) := Lib.hid (by omega)
  clear hc6 hc6' hc7' hc8'
  go_enter Try.func114, Try.ntmps114
  go_upto_region 1 with fail
  rw [← HW0.out]
  have HB := HB0
  have p0 : W0.cell? ⟨w.heap.size, 0, none⟩ = some (.slice A.pa P.np A.pc) := HB.out.p.cell 0
  have p1 : W0.cell? ⟨w.heap.size, 1, none⟩ = some (.slice A.ca P.nc A.cc) := HB.out.p.cell 1
  have p2 : W0.cell? ⟨w.heap.size, 2, none⟩ = some (.slice A.ma P.nm A.mc) := HB.out.p.cell 2
  have o0 : W0.cell? ⟨w.heap.size + 1, 0, none⟩ = some (.int .i64 c) := HB.out.o.cell 0
  have o1 : W0.cell? ⟨w.heap.size + 1, 1, none⟩ = some (.int .i64 a) := HB.out.o.cell 1
  have o2 : W0.cell? ⟨w.heap.size + 1, 2, none⟩ = some (.int .i64 b) := HB.out.o.cell 2
  have o3 : W0.cell? ⟨w.heap.size + 1, 3, none⟩ = some (.int .i64 sz) := HB.out.o.cell 3
  have s0 : W0.cell? ⟨w.heap.size + 1 + 1, 0, none⟩ = some (.slice sa n sc) := HB.out.s.cell 0
  have s1 : W0.cell? ⟨w.heap.size + 1 + 1, 1, none⟩ = some (.int .i64 hh) := HB.out.s.cell 1
  go_wp2_with fail
  refine (HM1.out _).mono ?_
  rintro e W1 ⟨rfl, rfl⟩
  go_upto_region 3 with (go_at_call 90; refine (HNm.out _ HB.out.b).mono ?_; rintro e W2 ⟨rfl, hb1⟩)
  replace HB : Hid (EfX P A c a b sz sa n sc hh w W2) := Lib.hid (HB.out.below hb1)
  clear p0 p1 p2 o0 o1 o2 o3 s0 s1
  have p0 : W2.cell? ⟨w.heap.size, 0, none⟩ = some (.slice A.pa P.np A.pc) := HB.out.p.cell 0
  have p1 : W2.cell? ⟨w.heap.size, 1, none⟩ = some (.slice A.ca P.nc A.cc) := HB.out.p.cell 1
  have p2 : W2.cell? ⟨w.heap.size, 2, none⟩ = some (.slice A.ma P.nm A.mc) := HB.out.p.cell 2
  have o0 : W2.cell? ⟨w.heap.size + 1, 0, none⟩ = some (.int .i64 c) := HB.out.o.cell 0
  have o1 : W2.cell? ⟨w.heap.size + 1, 1, none⟩ = some (.int .i64 a) := HB.out.o.cell 1
  have o2 : W2.cell? ⟨w.heap.size + 1, 2, none⟩ = some (.int .i64 b) := HB.out.o.cell 2
  have o3 : W2.cell? ⟨w.heap.size + 1, 3, none⟩ = some (.int .i64 sz) := HB.out.o.cell 3
  have s0 : W2.cell? ⟨w.heap.size + 1 + 1, 0, none⟩ = some (.slice sa n sc) := HB.out.s.cell 0
  have s1 : W2.cell? ⟨w.heap.size + 1 + 1, 1, none⟩ = some (.int .i64 hh) := HB.out.s.cell 1
  clear hb1
  have hfork : (decide ((6 : Int) ≤ (c : Int)) = false ∧ decide (6 ≤ c) = false) ∨ (decide ((6 : Int) ≤ (c : Int)) = true ∧ decide (6 ≤ c) = true ∧ decide ((c : Int) ≤ 8) = false ∧ decide (c ≤ 8) = false) := by
    rcases HD.out with hd | hd
    · exact .inl ⟨decide_eq_false (by omega), decide_eq_false (by omega)⟩
    · exact .inr ⟨decide_eq_true (by omega), decide_eq_true (by omega), decide_eq_false (by omega), decide_eq_false (by omega)⟩
  rcases hfork with ⟨d6, d6'⟩ | ⟨d6, d6', d8, d8'⟩
  all_goals
    go_upto_region 8 with fail
    go_wp2_with fail
    refine (HTk.out _ HB.out.b).mono ?_
    rintro e W3 ⟨ta, tc, pa5, pc5, rfl, ht, hp5, htc, hpc5, hb1⟩
    replace HB : Hid (EfX P A c a b sz sa n sc hh w W3) := Lib.hid (HB.out.below hb1)
    clear p0 p1 p2 o0 o1 o2 o3 s0 s1
    have p0 : W3.cell? ⟨w.heap.size, 0, none⟩ = some (.slice A.pa P.np A.pc) := HB.out.p.cell 0
    have p1 : W3.cell? ⟨w.heap.size, 1, none⟩ = some (.slice A.ca P.nc A.cc) := HB.out.p.cell 1
    have p2 : W3.cell? ⟨w.heap.size, 2, none⟩ = some (.slice A.ma P.nm A.mc) := HB.out.p.cell 2
    have o0 : W3.cell? ⟨w.heap.size + 1, 0, none⟩ = some (.int .i64 c) := HB.out.o.cell 0
    have o1 : W3.cell? ⟨w.heap.size + 1, 1, none⟩ = some (.int .i64 a) := HB.out.o.cell 1
    have o2 : W3.cell? ⟨w.heap.size + 1, 2, none⟩ = some (.int .i64 b) := HB.out.o.cell 2
    have o3 : W3.cell? ⟨w.heap.size + 1, 3, none⟩ = some (.int .i64 sz) := HB.out.o.cell 3
    have s0 : W3.cell? ⟨w.heap.size + 1 + 1, 0, none⟩ = some (.slice sa n sc) := HB.out.s.cell 0
    have s1 : W3.cell? ⟨w.heap.size + 1 + 1, 1, none⟩ = some (.int .i64 hh) := HB.out.s.cell 1
    clear hb1
    have HT := Lib.hid ht
    have HP5 := Lib.hid hp5
    have HPc := Lib.hid hpc5
    obtain ⟨L, hL⟩ : ∃ L, tk.length = L := ⟨_, rfl⟩
    rw [hL] at HE HS htc htl ⊢
    have HLe := Lib.hid hL
    clear hL ht hp5 hpc5
    by_cases hnL : n < L
    · obtain rfl : EE = 22 := HE.out.trans (if_pos hnL)
      have dl : decide ((n : Int) - (L : Int) < 0) = true := decide_eq_true (by omega)
      have dl2 : decide (n < L) = true := decide_eq_true hnL
      have r0 : W3.cell? ⟨w.heap.size + 1 + 1 + 1, 0, none⟩ = some (.slice none 0 0) := HB.out.r.cell 0
      have q0 : W3.frozen? ⟨w.heap.size + 1 + 1 + 1, 0, none⟩ = false := HB.out.r.frz 0
      have r1 : W3.cell? ⟨w.heap.size + 1 + 1 + 1, 1, none⟩ = some (.int .i64 0) := HB.out.r.cell 1
      have q1 : W3.frozen? ⟨w.heap.size + 1 + 1 + 1, 1, none⟩ = false := HB.out.r.frz 1
      go_wp2_with fail
      clear r0 r1 q0 q1
      have HR : Hid (Bx (W3.setCell ⟨w.heap.size + 1 + 1 + 1, 0, none⟩ (.slice none 0 0)) (w.heap.size + 1 + 1 + 1) #[.slice none 0 0, .int .i64 0] 72 ∧ Below w.heap.size w (W3.setCell ⟨w.heap.size + 1 + 1 + 1, 0, none⟩ (.slice none 0 0))) := Lib.hid ⟨HB.out.r.set 0 _, HB.out.b.setCell (p := ⟨w.heap.size + 1 + 1 + 1, 0, none⟩) (by simp; omega) _⟩
      generalize W3.setCell ⟨w.heap.size + 1 + 1 + 1, 0, none⟩ (.slice none 0 0) = z1 at HR ⊢
      replace HR : Hid (Bx (z1.setCell ⟨w.heap.size + 1 + 1 + 1, 1, none⟩ (.int .i64 0)) (w.heap.size + 1 + 1 + 1) #[.slice none 0 0, .int .i64 0] 72 ∧ Below w.heap.size w (z1.setCell ⟨w.heap.size + 1 + 1 + 1, 1, none⟩ (.int .i64 0))) := Lib.hid ⟨HR.out.1.set 1 _, HR.out.2.setCell (p := ⟨w.heap.size + 1 + 1 + 1, 1, none⟩) (by simp; omega) _⟩
      generalize z1.setCell ⟨w.heap.size + 1 + 1 + 1, 1, none⟩ (.int .i64 0) = z2 at HR ⊢
      have x0 : z2.cell? ⟨w.heap.size + 1 + 1 + 1, 0, none⟩ = some (.slice none 0 0) := HR.out.1.cell 0
      have x1 : z2.cell? ⟨w.heap.size + 1 + 1 + 1, 1, none⟩ = some (.int .i64 0) := HR.out.1.cell 1
      exact bodyPost_ret (v := .tuple #[.agg #[.slice none 0 0, .int .i64 0], .int .i64 22]) (by simp [results, Try.results114, go_sem, x0, x1]) rfl (HErr.out 22 _ (by first | exact rfl | trivial) (by decide) HR.out.2)
    obtain ⟨left, hleft⟩ : ∃ left, n = left + L := ⟨n - L, by omega⟩
    have hsub : n - L = left := by omega
    rw [hsub] at HE HS
    have HLf := Lib.hid hleft
    have hlr : (n : Int) - (L : Int) = (left : Int) := by omega
    have dl : decide ((left : Int) < 0) = false := decide_eq_false (by omega)
    have hnb : left + L ≤ n := by omega
    clear hleft hsub hnL
    have HTa : Hid (0 < L → ∃ bt ot, ta = some ⟨bt, ot, none⟩ ∧ bt < W3.heap.size ∧ ∀ i, i < L → W3.cell? ⟨bt, ot + i, none⟩ = some (.int .i64 (tk.getD i 0))) := Lib.hid fun h0 => by have := HT.out.at (by rw [HLe.out]; exact h0); rwa [HLe.out] at this
    have HSa : Hid (0 < n → ∃ bs os, sa = some ⟨bs, os, none⟩ ∧ bs < W3.heap.size ∧ ∀ i, i < n → W3.cell? ⟨bs, os + i, none⟩ = some (.int .i64 (l.getD i 0))) := Lib.hid fun h0 => by have := (HIs.out W3 HB.out.b).at (by rw [HN.out]; exact h0); rwa [HN.out] at this
    have HDl : Hid ((l.drop left).length = L) := Lib.hid (by rw [List.length_drop, HN.out]; have := HLf.out; omega)
    have HDg : Hid (∀ i, (l.drop left).getD i 0 = l.getD (left + i) 0) := Lib.hid fun i => getD_drop l left i
    have HNt : Hid (∀ j, j < L → tk.getD j 0 ≠ -1) := Lib.hid fun j hj => HNe.out _ (by
      rw [← HLe.out] at hj
      rw [List.getD_eq_getElem?_getD, List.getElem?_eq_getElem hj]
      exact List.getElem_mem hj)
    obtain ⟨ld, hld⟩ : ∃ ld, l.drop left = ld := ⟨_, rfl⟩
    rw [hld] at HE HDl HDg
    clear hld
    go_wp2_with fail
    clear hlr dl
    clear p0 p1 p2 o0 o1 o2 o3 s0 s1
    go_loopw [15] (fun i wr => ∃ z : Nat, z ≤ L ∧ i = .int .i64 z ∧ Hid (Below W3.heap.size W3 wr) ∧ Hid (∀ j : Nat, j < z → tk.getD j 0 = ld.getD j 0)) (fun i _ => L - (intOf i).toNat)
    case atStart => exact ⟨0, Nat.zero_le _, rfl, Lib.hid (Below.refl _ _), Lib.hid fun j h => absurd h (Nat.not_lt_zero _)⟩
    case round =>
      obtain ⟨k, hkl, rfl, HW, HF⟩ := hrel
      have HB : Hid (EfX P A c a b sz sa n sc hh w wr) := Lib.hid (HB.out.below HW.out)
      by_cases hz : k < L
      · have hkL : (k : Int) < L := by omega
        obtain ⟨bt, ot, rfl, hbt, hct⟩ := HTa.out (by omega)
        obtain ⟨bs, os, rfl, hbs, hcs⟩ := HSa.out (by omega)
        have t0 : wr.cell? ⟨bt, ot + k, none⟩ = some (.int .i64 (tk.getD k 0)) := (HW.out.cell (p := ⟨bt, ot + k, none⟩) hbt).trans (hct k hz)
        have t1 : wr.cell? ⟨bs, os + (left + k), none⟩ = some (.int .i64 (ld.getD k 0)) := (HW.out.cell (p := ⟨bs, os + (left + k), none⟩) hbs).trans (by rw [HDg.out]; exact hcs _ (by omega))
        clear hct hcs
        have w1 : IntKind.i64.wrap ((left : Int) + (k : Int)) = (left : Int) + k := by rw [IntKind.wrap_i64]; omega
        have w2 : (0 : Int) ≤ (left : Int) + k := by omega
        have w3 : ((left : Int) + (k : Int)).toNat = left + k := by omega
        have w4 : (left : Int) + k < n := by omega
        have dz : decide ((k : Int) < (L : Int)) = true := decide_eq_true hkL
        have dz' : decide (k < L) = true := decide_eq_true hz
        have p0 : wr.cell? ⟨w.heap.size, 0, none⟩ = some (.slice A.pa P.np A.pc) := HB.out.p.cell 0
        have p1 : wr.cell? ⟨w.heap.size, 1, none⟩ = some (.slice A.ca P.nc A.cc) := HB.out.p.cell 1
        have p2 : wr.cell? ⟨w.heap.size, 2, none⟩ = some (.slice A.ma P.nm A.mc) := HB.out.p.cell 2
        have o0 : wr.cell? ⟨w.heap.size + 1, 0, none⟩ = some (.int .i64 c) := HB.out.o.cell 0
        have o1 : wr.cell? ⟨w.heap.size + 1, 1, none⟩ = some (.int .i64 a) := HB.out.o.cell 1
        have o2 : wr.cell? ⟨w.heap.size + 1, 2, none⟩ = some (.int .i64 b) := HB.out.o.cell 2
        have o3 : wr.cell? ⟨w.heap.size + 1, 3, none⟩ = some (.int .i64 sz) := HB.out.o.cell 3
        have s0 : wr.cell? ⟨w.heap.size + 1 + 1, 0, none⟩ = some (.slice (some ⟨bs, os, none⟩) n sc) := HB.out.s.cell 0
        have s1 : wr.cell? ⟨w.heap.size + 1 + 1, 1, none⟩ = some (.int .i64 hh) := HB.out.s.cell 1
        obtain ⟨x, hx⟩ : ∃ x, tk.getD k 0 = x := ⟨_, rfl⟩
        obtain ⟨y, hy⟩ : ∃ y, ld.getD k 0 = y := ⟨_, rfl⟩
        rw [hx] at t0
        rw [hy] at t1
        have HX := Lib.hid hx
        have HY := Lib.hid hy
        clear hx hy
        by_cases hxy : y = x
        · have d2 : (y != x) = false := by simpa using hxy
          have HX1 := Lib.hid hxy
          clear hxy
          go_wp2_with fail
          go_quiet (fail)
          go_wp2
          exact ⟨⟨k + 1, by omega, by go_num, Lib.hid (below_drewN HW.out _), Lib.hid fun j h => by
            by_cases hjk : j = k
            · subst hjk
              exact HX.out.trans (HX1.out.symm.trans HY.out.symm)
            · exact HF.out j (by omega)⟩, by simp [intOf]; omega⟩
        · have d2 : (y != x) = true := by simpa using hxy
          have hfit : fitT tk ld = false := fit_n (HLe.out.trans HDl.out.symm) (k := k) (by rw [HLe.out]; exact hz) (HNt.out k hz) (by rw [HX.out, HY.out]; exact fun q => hxy q.symm)
          obtain rfl : EE = 21 := HE.out.trans ((if_neg (by omega)).trans (if_pos hfit))
          clear hfit hxy
          go_wp2_with fail
          go_quiet (fail)
          obtain ⟨V, hV⟩ : ∃ V, V = wr.drewN nq := ⟨_, rfl⟩
          have HB : Hid (EfX P A c a b sz (some ⟨bs, os, none⟩) n sc hh w V) := Lib.hid (HB.out.below (hV ▸ below_drewN (Below.refl _ _) _))
          rw [← hV]
          clear hV
          have r0 : V.cell? ⟨w.heap.size + 1 + 1 + 1, 0, none⟩ = some (.slice none 0 0) := HB.out.r.cell 0
          have q0 : V.frozen? ⟨w.heap.size + 1 + 1 + 1, 0, none⟩ = false := HB.out.r.frz 0
          have r1 : V.cell? ⟨w.heap.size + 1 + 1 + 1, 1, none⟩ = some (.int .i64 0) := HB.out.r.cell 1
          have q1 : V.frozen? ⟨w.heap.size + 1 + 1 + 1, 1, none⟩ = false := HB.out.r.frz 1
          go_wp2_with fail
          clear r0 r1 q0 q1
          have HR : Hid (Bx (V.setCell ⟨w.heap.size + 1 + 1 + 1, 0, none⟩ (.slice none 0 0)) (w.heap.size + 1 + 1 + 1) #[.slice none 0 0, .int .i64 0] 72 ∧ Below w.heap.size w (V.setCell ⟨w.heap.size + 1 + 1 + 1, 0, none⟩ (.slice none 0 0))) := Lib.hid ⟨HB.out.r.set 0 _, HB.out.b.setCell (p := ⟨w.heap.size + 1 + 1 + 1, 0, none⟩) (by simp; omega) _⟩
          generalize V.setCell ⟨w.heap.size + 1 + 1 + 1, 0, none⟩ (.slice none 0 0) = z1 at HR ⊢
          replace HR : Hid (Bx (z1.setCell ⟨w.heap.size + 1 + 1 + 1, 1, none⟩ (.int .i64 0)) (w.heap.size + 1 + 1 + 1) #[.slice none 0 0, .int .i64 0] 72 ∧ Below w.heap.size w (z1.setCell ⟨w.heap.size + 1 + 1 + 1, 1, none⟩ (.int .i64 0))) := Lib.hid ⟨HR.out.1.set 1 _, HR.out.2.setCell (p := ⟨w.heap.size + 1 + 1 + 1, 1, none⟩) (by simp; omega) _⟩
          generalize z1.setCell ⟨w.heap.size + 1 + 1 + 1, 1, none⟩ (.int .i64 0) = z2 at HR ⊢
          have x0 : z2.cell? ⟨w.heap.size + 1 + 1 + 1, 0, none⟩ = some (.slice none 0 0) := HR.out.1.cell 0
          have x1 : z2.cell? ⟨w.heap.size + 1 + 1 + 1, 1, none⟩ = some (.int .i64 0) := HR.out.1.cell 1
          exact bodyPost_ret (v := .tuple #[.agg #[.slice none 0 0, .int .i64 0], .int .i64 21]) (by simp [results, Try.results114, go_sem, x0, x1]) rfl (HErr.out 21 _ (by first | exact rfl | trivial) (by decide) HR.out.2)
      · obtain rfl : k = L := by omega
        have hfit : fitT tk ld = true := (fit_iff tk ld (HLe.out.trans HDl.out.symm)).2 fun j hj => .inr (HF.out j (by rw [← HLe.out]; exact hj))
        replace HE : Hid (EE = if c = 36 ∧ 10 ≤ hh ∨ c = 37 ∧ hh = 0 then 25 else 0) := Lib.hid (HE.out.trans ((if_neg (by omega)).trans (if_neg (by rw [hfit]; decide))))
        clear hfit hz
        have dz : decide ((k : Int) < (k : Int)) = false := decide_eq_false (by omega)
        have hst : ∀ V, (Instr.sliceAt 48 (.slice sa n sc) none (some (.int .i64 left)) none).run Try.prog V = .ok (.slice (if sc = 0 then sa else sa.map (·.add (0 * 1))) left sc) V := fun V => slice_to sa n sc left (by omega) V
        have HId : Hid (∀ V, Below wr.heap.size wr V → Ints V (if sc = 0 then sa else sa.map (·.add (0 * 1))) (l.take left)) := Lib.hid fun V hb => (HIs.out V (HB.out.b.trans (hb.mono HB.out.b.size))).take (by rw [HN.out]; omega)
        generalize (if sc = 0 then sa else sa.map (·.add (0 * 1))) = a4 at hst HId
        have HLt : Hid ((l.take left).length = left) := Lib.hid (by rw [List.length_take, HN.out]; omega)
        have HPi : Hid (∀ V, Below wr.heap.size wr V → Ints V pa5 pu) := Lib.hid fun V hb => HP5.out.kept (Kept.of (HW.out.trans (hb.mono HW.out.size)))
        have HX : Hid (∀ V, Below wr.heap.size wr V → V.cell? ⟨w.heap.size + 1 + 1, 0, none⟩ = some (.slice sa n sc) ∧ V.cell? ⟨w.heap.size + 1 + 1, 1, none⟩ = some (.int .i64 hh)) := Lib.hid fun V hb => ⟨(HB.out.s.below hb).cell 0, (HB.out.s.below hb).cell 1⟩
        have hl2 : left ≤ 20000 := by omega
        have hp2 : pu.length ≤ 2 := HPu.out
        have p0 : wr.cell? ⟨w.heap.size, 0, none⟩ = some (.slice A.pa P.np A.pc) := HB.out.p.cell 0
        have p1 : wr.cell? ⟨w.heap.size, 1, none⟩ = some (.slice A.ca P.nc A.cc) := HB.out.p.cell 1
        have p2 : wr.cell? ⟨w.heap.size, 2, none⟩ = some (.slice A.ma P.nm A.mc) := HB.out.p.cell 2
        have o0 : wr.cell? ⟨w.heap.size + 1, 0, none⟩ = some (.int .i64 c) := HB.out.o.cell 0
        have o1 : wr.cell? ⟨w.heap.size + 1, 1, none⟩ = some (.int .i64 a) := HB.out.o.cell 1
        have o2 : wr.cell? ⟨w.heap.size + 1, 2, none⟩ = some (.int .i64 b) := HB.out.o.cell 2
        have o3 : wr.cell? ⟨w.heap.size + 1, 3, none⟩ = some (.int .i64 sz) := HB.out.o.cell 3
        have s0 : wr.cell? ⟨w.heap.size + 1 + 1, 0, none⟩ = some (.slice sa n sc) := HB.out.s.cell 0
        have s1 : wr.cell? ⟨w.heap.size + 1 + 1, 1, none⟩ = some (.int .i64 hh) := HB.out.s.cell 1
        go_upto_region 17 with fail
        clear p0 p1 p2 o0 o1 o2 o3 s0 s1
        refine region_e 12 (fun w' => Below wr.heap.size wr w' ∧ w'.cell? ⟨w.heap.size + 1 + 1, 0, none⟩ = some (.slice sa n sc) ∧ w'.cell? ⟨w.heap.size + 1 + 1, 1, none⟩ = some (.int .i64 hh)) (by kernel_rfl) ⟨(Below.refl _ _).drew, HX.out _ (Below.refl _ _).drew⟩ (fun hHeld => ?_)
        refine AnyE.take2 (i := 1) [] (oi := { dst := some 101, op := Go.Op.fieldAddr 72 (Go.Operand.tmp 7) 0, type := 0, pos := "ref.go:154", after := #[], guard := none }) (v := ?_) rfl (by kernel_rfl) (by kernel_rfl) (by kernel_rfl) (by kernel_rfl) (fun _ _ _ h => h) (Or.inl ⟨by rfl, ?_⟩) (by assumption) ?_
        rotate_left
        · (intro w0 hSw; (try dsimp only at hSw); go_split_ands; go_simp; with_reducible rfl)
        try simp only [Act.put, List.setIfInBounds_toArray, List.set_cons_zero, List.set_cons_succ]
        refine AnyE.take2 (i := 2) [] (oi := { dst := some 102, op := Go.Op.load 48 (Go.Operand.tmp 101), type := 48, pos := "ref.go:154", after := #[{ on := 1, ground := Go.Ground.data }], guard := none }) (v := ?_) rfl (by kernel_rfl) (by kernel_rfl) (by kernel_rfl) (by kernel_rfl) (fun _ _ _ h => h) (Or.inl ⟨by rfl, ?_⟩) (by assumption) ?_
        rotate_left
        · (intro w0 hSw; (try dsimp only at hSw); go_split_ands; go_simp; with_reducible rfl)
        try simp only [Act.put, List.setIfInBounds_toArray, List.set_cons_zero, List.set_cons_succ]
        refine AnyE.take2 (i := 3) [] (oi := { dst := some 103, op := Go.Op.move (Go.Operand.tmp 14), type := 3, pos := "ref.go:154", after := #[], guard := none }) (v := ?_) rfl (by kernel_rfl) (by kernel_rfl) (by kernel_rfl) (by kernel_rfl) (fun _ _ _ h => h) (Or.inl ⟨by rfl, ?_⟩) (by assumption) ?_
        rotate_left
        · (intro w0 hSw; (try dsimp only at hSw); go_split_ands; go_simp; with_reducible rfl)
        try simp only [Act.put, List.setIfInBounds_toArray, List.set_cons_zero, List.set_cons_succ]
        refine AnyE.take2 (i := 4) [] (oi := { dst := some 104, op := Go.Op.slice 48 (Go.Operand.tmp 102) none (some (Go.Operand.tmp 103)) none, type := 48, pos := "ref.go:154", after := #[{ on := 2, ground := Go.Ground.data }, { on := 3, ground := Go.Ground.data }], guard := none }) (v := ?_) rfl (by kernel_rfl) (by kernel_rfl) (by kernel_rfl) (by kernel_rfl) (fun _ _ _ h => h) (Or.inl ⟨by rfl, ?_⟩) (by assumption) ?_
        rotate_left
        · (intro w0 hSw; (try dsimp only at hSw); go_split_ands; go_simp; with_reducible rfl)
        try simp only [Act.put, List.setIfInBounds_toArray, List.set_cons_zero, List.set_cons_succ]
        refine AnyE.take2 (i := 6) [] (oi := { dst := some 106, op := Go.Op.move (Go.Operand.tmp 13), type := 48, pos := "ref.go:154", after := #[], guard := none }) (v := ?_) rfl (by kernel_rfl) (by kernel_rfl) (by kernel_rfl) (by kernel_rfl) (fun _ _ _ h => h) (Or.inl ⟨by rfl, ?_⟩) (by assumption) ?_
        rotate_left
        · (intro w0 hSw; (try dsimp only at hSw); go_split_ands; go_simp; with_reducible rfl)
        try simp only [Act.put, List.setIfInBounds_toArray, List.set_cons_zero, List.set_cons_succ]
        refine AnyE.take2 (i := 8) [] (oi := { dst := some 108, op := Go.Op.fieldAddr 72 (Go.Operand.tmp 7) 1, type := 0, pos := "ref.go:154", after := #[], guard := none }) (v := ?_) rfl (by kernel_rfl) (by kernel_rfl) (by kernel_rfl) (by kernel_rfl) (fun _ _ _ h => h) (Or.inl ⟨by rfl, ?_⟩) (by assumption) ?_
        rotate_left
        · (intro w0 hSw; (try dsimp only at hSw); go_split_ands; go_simp; with_reducible rfl)
        try simp only [Act.put, List.setIfInBounds_toArray, List.set_cons_zero, List.set_cons_succ]
        refine AnyE.take2 (i := 9) [] (oi := { dst := some 109, op := Go.Op.load 3 (Go.Operand.tmp 108), type := 3, pos := "ref.go:154", after := #[{ on := 8, ground := Go.Ground.data }], guard := none }) (v := ?_) rfl (by kernel_rfl) (by kernel_rfl) (by kernel_rfl) (by kernel_rfl) (fun _ _ _ h => h) (Or.inl ⟨by rfl, ?_⟩) (by assumption) ?_
        rotate_left
        · (intro w0 hSw; (try dsimp only at hSw); go_split_ands; go_simp; with_reducible rfl)
        try simp only [Act.put, List.setIfInBounds_toArray, List.set_cons_zero, List.set_cons_succ]
        have HBu : Hid (Below wr.heap.size wr wr.drew) := Lib.hid (Below.refl _ _).drew
        refine AnyE.ready (rs := [0, 11]) (by kernel_rfl) (by simp) ?_
        refine (AllE.cons (o := { dst := some 100, op := Go.Op.buildSlice 48 0 #[], type := 48, pos := "ref.go:154", after := #[], guard := none }) rfl (fun KK hKK => ?_) (AllE.cons (o := { dst := some 16, op := Go.Op.alloc 72, type := 0, pos := "ref.go:154", after := #[], guard := none }) rfl (fun KK hKK => ?_) AllE.nil))
        · go_simp
          have HO : Hid (OwX wr (wr.drew.alloc (.cells #[] 3)) (wr.heap.size) 0 (.slice (some ⟨wr.heap.size, 0, none⟩) 0 0) []) := Lib.hid (OwX.newg (wr.heap.size) rfl HBu.out)
          replace HBu : Hid (Below wr.heap.size wr (wr.drew.alloc (.cells #[] 3))) := Lib.hid (HBu.out.alloc HBu.out.size _)
          refine hKK.out _ _ ⟨HBu.out, HX.out _ HBu.out⟩ (fun hHeld => ?_)
          clear hKK KK
          try simp only [Act.put, List.setIfInBounds_toArray, List.set_cons_zero, List.set_cons_succ]
          refine AnyE.ready (rs := [5, 11]) (by kernel_rfl) (by simp) ?_
          refine (AllE.cons (o := { dst := some 105, op := Go.Op.call { callee := Go.Callee.builtin Go.Builtin.append, args := #[Go.Operand.tmp 100, Go.Operand.tmp 104], argTypes := #[48, 48] }, type := 48, pos := "ref.go:154", after := #[{ on := 0, ground := Go.Ground.data }, { on := 4, ground := Go.Ground.data }], guard := none }) rfl (fun KK hKK => ?_) (AllE.cons (o := { dst := some 16, op := Go.Op.alloc 72, type := 0, pos := "ref.go:154", after := #[], guard := none }) rfl (fun KK hKK => ?_) AllE.nil))
          · obtain ⟨v1, u1, hr1, ho1, hb1, hp1⟩ := HO.out.app2 (HId.out _ HBu.out) (HLt.out) (by omega) sc
            refine step_append_run rfl _ _ _ rfl _ _ _ _ rfl (by rfl) hr1 ?_
            clear hr1
            replace HBu : Hid (Below wr.heap.size wr u1) := Lib.hid (HBu.out.trans (hb1.mono HO.out.b0))
            replace HO := Lib.hid ho1
            clear ho1 hb1 hp1
            refine hKK.out _ _ ⟨HBu.out, HX.out _ HBu.out⟩ (fun hHeld => ?_)
            clear hKK KK
            try simp only [Act.put, List.setIfInBounds_toArray, List.set_cons_zero, List.set_cons_succ]
            refine AnyE.ready (rs := [7, 11]) (by kernel_rfl) (by simp) ?_
            refine (AllE.cons (o := { dst := some 107, op := Go.Op.call { callee := Go.Callee.builtin Go.Builtin.append, args := #[Go.Operand.tmp 105, Go.Operand.tmp 106], argTypes := #[48, 48] }, type := 48, pos := "ref.go:154", after := #[{ on := 5, ground := Go.Ground.data }, { on := 6, ground := Go.Ground.data }, { on := 5, ground := Go.Ground.chain }], guard := none }) rfl (fun KK hKK => ?_) (AllE.cons (o := { dst := some 16, op := Go.Op.alloc 72, type := 0, pos := "ref.go:154", after := #[], guard := none }) rfl (fun KK hKK => ?_) AllE.nil))
            · obtain ⟨v2, u2, hr1, ho1, hb1, hp1⟩ := HO.out.app2 (HPi.out _ HBu.out) (rfl) (by have := HPu.out; omega) pc5
              obtain ⟨a7, c7, rfl⟩ := own_slice ho1.o
              refine step_append_run rfl _ _ _ rfl _ _ _ _ rfl (by rfl) hr1 ?_
              clear hr1
              replace HBu : Hid (Below wr.heap.size wr u2) := Lib.hid (HBu.out.trans (hb1.mono HO.out.b0))
              replace HO := Lib.hid ho1
              clear ho1 hb1 hp1
              refine hKK.out _ _ ⟨HBu.out, HX.out _ HBu.out⟩ (fun hHeld => ?_)
              clear hKK KK
              try simp only [Act.put, List.setIfInBounds_toArray, List.set_cons_zero, List.set_cons_succ]
              refine AnyE.take2 (i := 10) [] (oi := { dst := some 110, op := Go.Op.build 72 #[(0, Go.Operand.tmp 107), (1, Go.Operand.tmp 109)], type := 72, pos := "ref.go:154", after := #[{ on := 7, ground := Go.Ground.data }, { on := 9, ground := Go.Ground.data }], guard := none }) (v := ?_) rfl (by kernel_rfl) (by kernel_rfl) (by kernel_rfl) (by kernel_rfl) (fun _ _ _ h => h) (Or.inl ⟨by rfl, ?_⟩) (by assumption) ?_
              rotate_left
              · (intro w0 hSw; (try dsimp only at hSw); go_split_ands; go_simp; with_reducible rfl)
              try simp only [Act.put, List.setIfInBounds_toArray, List.set_cons_zero, List.set_cons_succ]
              refine AnyE.ready (rs := [11]) (by kernel_rfl) (by simp) ?_
              refine (AllE.cons (o := { dst := some 16, op := Go.Op.alloc 72, type := 0, pos := "ref.go:154", after := #[], guard := none }) rfl (fun KK hKK => ?_) AllE.nil)
              go_simp
              have HP : Hid (PendB (u2.alloc (.cells #[.slice none 0 0, .int .i64 0] 72)) (.slice a7 _ c7) (u2.heap.size) #[.slice none 0 0, .int .i64 0]) := Lib.hid (PendB.newg (u2.heap.size) rfl HO.out #[.slice none 0 0, .int .i64 0])
              replace HO : Hid (OwX wr (u2.alloc (.cells #[.slice none 0 0, .int .i64 0] 72)) _ _ (.slice a7 _ c7) _) := Lib.hid (HO.out.alloc _)
              have HG : Hid (wr.heap.size ≤ u2.heap.size) := Lib.hid (by have := HBu.out.size; (try simp only [World.size_alloc, World.size_drew] at this); omega)
              replace HBu : Hid (Below wr.heap.size wr (u2.alloc (.cells #[.slice none 0 0, .int .i64 0] 72))) := Lib.hid (HBu.out.alloc HBu.out.size _)
              refine hKK.out _ _ ⟨HBu.out, HX.out _ HBu.out⟩ (fun hHeld => ?_)
              clear hKK KK
              try simp only [Act.put, List.setIfInBounds_toArray, List.set_cons_zero, List.set_cons_succ]
              have hg1 := pendB_lt HP.out
              refine AnyE.ready (rs := [12]) (by kernel_rfl) (by simp) ?_
              refine AllE.last (o := { dst := none, op := Go.Op.store 72 (Go.Operand.tmp 16) (Go.Operand.tmp 110), type := 0, pos := "ref.go:154", after := #[{ on := 11, ground := Go.Ground.data }, { on := 10, ground := Go.Ground.data }, { on := 7, ground := Go.Ground.chain }, { on := 0, ground := Go.Ground.phase }, { on := 1, ground := Go.Ground.phase }, { on := 2, ground := Go.Ground.phase }, { on := 3, ground := Go.Ground.phase }, { on := 4, ground := Go.Ground.phase }, { on := 5, ground := Go.Ground.phase }, { on := 6, ground := Go.Ground.phase }, { on := 7, ground := Go.Ground.phase }, { on := 8, ground := Go.Ground.phase }, { on := 9, ground := Go.Ground.phase }, { on := 10, ground := Go.Ground.phase }, { on := 11, ground := Go.Ground.phase }], guard := none }) rfl (by kernel_rfl) (fun KK hKK => ?_)
              obtain ⟨g, hge⟩ : ∃ q, q = u2.heap.size := ⟨_, rfl⟩
              replace HG : Hid (wr.heap.size ≤ g) := Lib.hid (by rw [hge]; exact HG.out)
              rw [← hge] at HP ⊢
              clear hge hg1
              have z0 : ((u2.alloc (.cells #[.slice none 0 0, .int .i64 0] 72))).cell? ⟨g, 0, none⟩ = some (.slice none 0 0) := HP.out.1.cell 0
              have z1 : ((u2.alloc (.cells #[.slice none 0 0, .int .i64 0] 72))).cell? ⟨g, 1, none⟩ = some (.int .i64 0) := HP.out.1.cell 1
              have y0 : ((u2.alloc (.cells #[.slice none 0 0, .int .i64 0] 72))).frozen? ⟨g, 0, none⟩ = false := HP.out.1.frz 0
              have y1 : ((u2.alloc (.cells #[.slice none 0 0, .int .i64 0] 72))).frozen? ⟨g, 1, none⟩ = false := HP.out.1.frz 1
              go_simp
              refine hKK.out _ _ ?_
              clear hKK KK
              try simp only [Act.put, List.setIfInBounds_toArray, List.set_cons_zero, List.set_cons_succ]
              clear z0 z1 y0 y1 hHeld
              obtain ⟨N, hNe⟩ : ∃ q, q = left + pu.length := ⟨_, rfl⟩
              rw [Nat.zero_add] at HO HP
              rw [← hNe] at HO HP ⊢
              obtain ⟨U, hU⟩ : ∃ q, q = (((u2.alloc (.cells #[.slice none 0 0, .int .i64 0] 72))).setCell ⟨g, 0, none⟩ (.slice a7 N c7)).setCell ⟨g, 1, none⟩ (.int .i64 hh) := ⟨_, rfl⟩
              rw [← hU]
              have HNl : Hid ((l.take left ++ pu).length = N) := Lib.hid (by rw [List.length_append, HLt.out, hNe])
              have HA : Hid (AfT P A c a b sz sa n sc hh w U g a7 N c7 hh (l.take left ++ pu)) := Lib.hid (by rw [hU]; exact AfT.mk' (HB.out.below HBu.out) HP.out HO.out HB.out.r.lt HG.out HNl.out)
              have HF7 : Hid (N ≤ c7) := Lib.hid (own_fit HO.out.o)
              clear hU hNe HP HO HG HBu
              by_cases h36 : c = 36
              · subst h36
                have g0 : U.cell? ⟨g, 0, none⟩ = some (.slice a7 N c7) := HA.out.x.cell 0
                have g1 : U.cell? ⟨g, 1, none⟩ = some (.int .i64 hh) := HA.out.x.cell 1
                have gf : U.frozen? ⟨g, 1, none⟩ = false := HA.out.x.frz 1
                have o0 : U.cell? ⟨w.heap.size + 1, 0, none⟩ = some (.int .i64 36) := HA.out.e.o.cell 0
                go_upto_region 22 with fail
                obtain ⟨U2, hU2⟩ : ∃ q, q = U.setCell ⟨g, 1, none⟩ (.int .i64 (hh + 1)) := ⟨_, rfl⟩
                have HA2 : Hid (AfT P A 36 a b sz sa n sc hh w U2 g a7 N c7 (hh + 1) (l.take left ++ pu)) := Lib.hid (by rw [hU2]; exact HA.out.held (hh + 1))
                rw [← hU2]
                clear hU2 g0 g1 gf o0
                have g0 : U2.cell? ⟨g, 0, none⟩ = some (.slice a7 N c7) := HA2.out.x.cell 0
                have g1 : U2.cell? ⟨g, 1, none⟩ = some (.int .i64 (hh + 1)) := HA2.out.x.cell 1
                have o0 : U2.cell? ⟨w.heap.size + 1, 0, none⟩ = some (.int .i64 36) := HA2.out.e.o.cell 0
                by_cases hcd : 10 ≤ hh
                · obtain rfl : EE = 25 := HE.out.trans (if_pos (.inl ⟨rfl, hcd⟩))
                  have d10 : decide ((10 : Int) < hh + 1) = true := decide_eq_true (by omega)
                  clear hcd
                  have r0 : U2.cell? ⟨w.heap.size + 1 + 1 + 1, 0, none⟩ = some (.slice none 0 0) := HA2.out.e.r.cell 0
                  have q0 : U2.frozen? ⟨w.heap.size + 1 + 1 + 1, 0, none⟩ = false := HA2.out.e.r.frz 0
                  have r1 : U2.cell? ⟨w.heap.size + 1 + 1 + 1, 1, none⟩ = some (.int .i64 0) := HA2.out.e.r.cell 1
                  have q1 : U2.frozen? ⟨w.heap.size + 1 + 1 + 1, 1, none⟩ = false := HA2.out.e.r.frz 1
                  go_wp2_with fail
                  clear r0 r1 q0 q1
                  have HR : Hid (Bx (U2.setCell ⟨w.heap.size + 1 + 1 + 1, 0, none⟩ (.slice none 0 0)) (w.heap.size + 1 + 1 + 1) #[.slice none 0 0, .int .i64 0] 72 ∧ Below w.heap.size w (U2.setCell ⟨w.heap.size + 1 + 1 + 1, 0, none⟩ (.slice none 0 0))) := Lib.hid ⟨HA2.out.e.r.set 0 _, HA2.out.e.b.setCell (p := ⟨w.heap.size + 1 + 1 + 1, 0, none⟩) (by simp; omega) _⟩
                  generalize U2.setCell ⟨w.heap.size + 1 + 1 + 1, 0, none⟩ (.slice none 0 0) = z1 at HR ⊢
                  replace HR : Hid (Bx (z1.setCell ⟨w.heap.size + 1 + 1 + 1, 1, none⟩ (.int .i64 0)) (w.heap.size + 1 + 1 + 1) #[.slice none 0 0, .int .i64 0] 72 ∧ Below w.heap.size w (z1.setCell ⟨w.heap.size + 1 + 1 + 1, 1, none⟩ (.int .i64 0))) := Lib.hid ⟨HR.out.1.set 1 _, HR.out.2.setCell (p := ⟨w.heap.size + 1 + 1 + 1, 1, none⟩) (by simp; omega) _⟩
                  generalize z1.setCell ⟨w.heap.size + 1 + 1 + 1, 1, none⟩ (.int .i64 0) = z2 at HR ⊢
                  have x0 : z2.cell? ⟨w.heap.size + 1 + 1 + 1, 0, none⟩ = some (.slice none 0 0) := HR.out.1.cell 0
                  have x1 : z2.cell? ⟨w.heap.size + 1 + 1 + 1, 1, none⟩ = some (.int .i64 0) := HR.out.1.cell 1
                  exact bodyPost_ret (v := .tuple #[.agg #[.slice none 0 0, .int .i64 0], .int .i64 25]) (by simp [results, Try.results114, go_sem, x0, x1]) rfl (HErr.out 25 _ (by first | exact rfl | trivial) (by decide) HR.out.2)
                · obtain rfl : EE = 0 := HE.out.trans (if_neg (by omega))
                  have HhN : Hid (heldN 36 hh = (hh + 1)) := Lib.hid rfl
                  have d10 : decide ((10 : Int) < hh + 1) = false := decide_eq_false (by omega)
                  clear hcd
                  have r0 : U2.cell? ⟨w.heap.size + 1 + 1 + 1, 0, none⟩ = some (.slice none 0 0) := HA2.out.e.r.cell 0
                  have q0 : U2.frozen? ⟨w.heap.size + 1 + 1 + 1, 0, none⟩ = false := HA2.out.e.r.frz 0
                  have r1 : U2.cell? ⟨w.heap.size + 1 + 1 + 1, 1, none⟩ = some (.int .i64 0) := HA2.out.e.r.cell 1
                  have q1 : U2.frozen? ⟨w.heap.size + 1 + 1 + 1, 1, none⟩ = false := HA2.out.e.r.frz 1
                  go_wp2_with fail
                  clear r0 r1 q0 q1
                  have HR : Hid (Bx (U2.setCell ⟨w.heap.size + 1 + 1 + 1, 0, none⟩ (.slice a7 N c7)) (w.heap.size + 1 + 1 + 1) #[.slice a7 N c7, .int .i64 0] 72 ∧ Below w.heap.size w (U2.setCell ⟨w.heap.size + 1 + 1 + 1, 0, none⟩ (.slice a7 N c7)) ∧ Ints (U2.setCell ⟨w.heap.size + 1 + 1 + 1, 0, none⟩ (.slice a7 N c7)) a7 (l.take left ++ pu)) := Lib.hid ⟨HA2.out.e.r.set 0 _, HA2.out.e.b.setCell (p := ⟨w.heap.size + 1 + 1 + 1, 0, none⟩) (by simp; omega) _, HA2.out.i.far (fun p hp e => by have := HA2.out.af p hp; omega) _ _⟩
                  generalize U2.setCell ⟨w.heap.size + 1 + 1 + 1, 0, none⟩ (.slice a7 N c7) = z1 at HR ⊢
                  replace HR : Hid (Bx (z1.setCell ⟨w.heap.size + 1 + 1 + 1, 1, none⟩ (.int .i64 (hh + 1))) (w.heap.size + 1 + 1 + 1) #[.slice a7 N c7, .int .i64 (hh + 1)] 72 ∧ Below w.heap.size w (z1.setCell ⟨w.heap.size + 1 + 1 + 1, 1, none⟩ (.int .i64 (hh + 1))) ∧ Ints (z1.setCell ⟨w.heap.size + 1 + 1 + 1, 1, none⟩ (.int .i64 (hh + 1))) a7 (l.take left ++ pu)) := Lib.hid ⟨HR.out.1.set 1 _, HR.out.2.1.setCell (p := ⟨w.heap.size + 1 + 1 + 1, 1, none⟩) (by simp; omega) _, HR.out.2.2.far (fun p hp e => by have := HA2.out.af p hp; omega) _ _⟩
                  generalize z1.setCell ⟨w.heap.size + 1 + 1 + 1, 1, none⟩ (.int .i64 (hh + 1)) = z2 at HR ⊢
                  have x0 : z2.cell? ⟨w.heap.size + 1 + 1 + 1, 0, none⟩ = some (.slice a7 N c7) := HR.out.1.cell 0
                  have x1 : z2.cell? ⟨w.heap.size + 1 + 1 + 1, 1, none⟩ = some (.int .i64 (hh + 1)) := HR.out.1.cell 1
                  refine bodyPost_ret (v := .tuple #[.agg #[.slice a7 N c7, .int .i64 (hh + 1)], .int .i64 0]) (by simp [results, Try.results114, go_sem, x0, x1]) rfl ?_
                  have hS := HS.out; rw [HhN.out] at hS
                  exact HOk.out a7 c7 N (hh + 1) z2 (by first | exact rfl | trivial) (by rw [hS]; exact HNl.out) (by rw [hS]) (by rw [hS]; exact HR.out.2.2) HF7.out (fun p hp => by have := HA2.out.af p hp; omega) HR.out.2.1
              by_cases h37 : c = 37
              · subst h37
                have g0 : U.cell? ⟨g, 0, none⟩ = some (.slice a7 N c7) := HA.out.x.cell 0
                have g1 : U.cell? ⟨g, 1, none⟩ = some (.int .i64 hh) := HA.out.x.cell 1
                have gf : U.frozen? ⟨g, 1, none⟩ = false := HA.out.x.frz 1
                have o0 : U.cell? ⟨w.heap.size + 1, 0, none⟩ = some (.int .i64 37) := HA.out.e.o.cell 0
                go_upto_region 22 with fail
                obtain ⟨U2, hU2⟩ : ∃ q, q = U.setCell ⟨g, 1, none⟩ (.int .i64 (hh - 1)) := ⟨_, rfl⟩
                have HA2 : Hid (AfT P A 37 a b sz sa n sc hh w U2 g a7 N c7 (hh - 1) (l.take left ++ pu)) := Lib.hid (by rw [hU2]; exact HA.out.held (hh - 1))
                rw [← hU2]
                clear hU2 g0 g1 gf o0
                have g0 : U2.cell? ⟨g, 0, none⟩ = some (.slice a7 N c7) := HA2.out.x.cell 0
                have g1 : U2.cell? ⟨g, 1, none⟩ = some (.int .i64 (hh - 1)) := HA2.out.x.cell 1
                have o0 : U2.cell? ⟨w.heap.size + 1, 0, none⟩ = some (.int .i64 37) := HA2.out.e.o.cell 0
                by_cases hcd : hh = 0
                · obtain rfl : EE = 25 := HE.out.trans (if_pos (.inr ⟨rfl, hcd⟩))
                  have d10 : decide (hh - 1 < 0) = true := decide_eq_true (by omega)
                  clear hcd
                  have r0 : U2.cell? ⟨w.heap.size + 1 + 1 + 1, 0, none⟩ = some (.slice none 0 0) := HA2.out.e.r.cell 0
                  have q0 : U2.frozen? ⟨w.heap.size + 1 + 1 + 1, 0, none⟩ = false := HA2.out.e.r.frz 0
                  have r1 : U2.cell? ⟨w.heap.size + 1 + 1 + 1, 1, none⟩ = some (.int .i64 0) := HA2.out.e.r.cell 1
                  have q1 : U2.frozen? ⟨w.heap.size + 1 + 1 + 1, 1, none⟩ = false := HA2.out.e.r.frz 1
                  go_wp2_with fail
                  clear r0 r1 q0 q1
                  have HR : Hid (Bx (U2.setCell ⟨w.heap.size + 1 + 1 + 1, 0, none⟩ (.slice none 0 0)) (w.heap.size + 1 + 1 + 1) #[.slice none 0 0, .int .i64 0] 72 ∧ Below w.heap.size w (U2.setCell ⟨w.heap.size + 1 + 1 + 1, 0, none⟩ (.slice none 0 0))) := Lib.hid ⟨HA2.out.e.r.set 0 _, HA2.out.e.b.setCell (p := ⟨w.heap.size + 1 + 1 + 1, 0, none⟩) (by simp; omega) _⟩
                  generalize U2.setCell ⟨w.heap.size + 1 + 1 + 1, 0, none⟩ (.slice none 0 0) = z1 at HR ⊢
                  replace HR : Hid (Bx (z1.setCell ⟨w.heap.size + 1 + 1 + 1, 1, none⟩ (.int .i64 0)) (w.heap.size + 1 + 1 + 1) #[.slice none 0 0, .int .i64 0] 72 ∧ Below w.heap.size w (z1.setCell ⟨w.heap.size + 1 + 1 + 1, 1, none⟩ (.int .i64 0))) := Lib.hid ⟨HR.out.1.set 1 _, HR.out.2.setCell (p := ⟨w.heap.size + 1 + 1 + 1, 1, none⟩) (by simp; omega) _⟩
                  generalize z1.setCell ⟨w.heap.size + 1 + 1 + 1, 1, none⟩ (.int .i64 0) = z2 at HR ⊢
                  have x0 : z2.cell? ⟨w.heap.size + 1 + 1 + 1, 0, none⟩ = some (.slice none 0 0) := HR.out.1.cell 0
                  have x1 : z2.cell? ⟨w.heap.size + 1 + 1 + 1, 1, none⟩ = some (.int .i64 0) := HR.out.1.cell 1
                  exact bodyPost_ret (v := .tuple #[.agg #[.slice none 0 0, .int .i64 0], .int .i64 25]) (by simp [results, Try.results114, go_sem, x0, x1]) rfl (HErr.out 25 _ (by first | exact rfl | trivial) (by decide) HR.out.2)
                · obtain rfl : EE = 0 := HE.out.trans (if_neg (by omega))
                  have HhN : Hid (heldN 37 hh = (hh - 1)) := Lib.hid rfl
                  have d10 : decide (hh - 1 < 0) = false := decide_eq_false (by omega)
                  clear hcd
                  have r0 : U2.cell? ⟨w.heap.size + 1 + 1 + 1, 0, none⟩ = some (.slice none 0 0) := HA2.out.e.r.cell 0
                  have q0 : U2.frozen? ⟨w.heap.size + 1 + 1 + 1, 0, none⟩ = false := HA2.out.e.r.frz 0
                  have r1 : U2.cell? ⟨w.heap.size + 1 + 1 + 1, 1, none⟩ = some (.int .i64 0) := HA2.out.e.r.cell 1
                  have q1 : U2.frozen? ⟨w.heap.size + 1 + 1 + 1, 1, none⟩ = false := HA2.out.e.r.frz 1
                  go_wp2_with fail
                  clear r0 r1 q0 q1
                  have HR : Hid (Bx (U2.setCell ⟨w.heap.size + 1 + 1 + 1, 0, none⟩ (.slice a7 N c7)) (w.heap.size + 1 + 1 + 1) #[.slice a7 N c7, .int .i64 0] 72 ∧ Below w.heap.size w (U2.setCell ⟨w.heap.size + 1 + 1 + 1, 0, none⟩ (.slice a7 N c7)) ∧ Ints (U2.setCell ⟨w.heap.size + 1 + 1 + 1, 0, none⟩ (.slice a7 N c7)) a7 (l.take left ++ pu)) := Lib.hid ⟨HA2.out.e.r.set 0 _, HA2.out.e.b.setCell (p := ⟨w.heap.size + 1 + 1 + 1, 0, none⟩) (by simp; omega) _, HA2.out.i.far (fun p hp e => by have := HA2.out.af p hp; omega) _ _⟩
                  generalize U2.setCell ⟨w.heap.size + 1 + 1 + 1, 0, none⟩ (.slice a7 N c7) = z1 at HR ⊢
                  replace HR : Hid (Bx (z1.setCell ⟨w.heap.size + 1 + 1 + 1, 1, none⟩ (.int .i64 (hh - 1))) (w.heap.size + 1 + 1 + 1) #[.slice a7 N c7, .int .i64 (hh - 1)] 72 ∧ Below w.heap.size w (z1.setCell ⟨w.heap.size + 1 + 1 + 1, 1, none⟩ (.int .i64 (hh - 1))) ∧ Ints (z1.setCell ⟨w.heap.size + 1 + 1 + 1, 1, none⟩ (.int .i64 (hh - 1))) a7 (l.take left ++ pu)) := Lib.hid ⟨HR.out.1.set 1 _, HR.out.2.1.setCell (p := ⟨w.heap.size + 1 + 1 + 1, 1, none⟩) (by simp; omega) _, HR.out.2.2.far (fun p hp e => by have := HA2.out.af p hp; omega) _ _⟩
                  generalize z1.setCell ⟨w.heap.size + 1 + 1 + 1, 1, none⟩ (.int .i64 (hh - 1)) = z2 at HR ⊢
                  have x0 : z2.cell? ⟨w.heap.size + 1 + 1 + 1, 0, none⟩ = some (.slice a7 N c7) := HR.out.1.cell 0
                  have x1 : z2.cell? ⟨w.heap.size + 1 + 1 + 1, 1, none⟩ = some (.int .i64 (hh - 1)) := HR.out.1.cell 1
                  refine bodyPost_ret (v := .tuple #[.agg #[.slice a7 N c7, .int .i64 (hh - 1)], .int .i64 0]) (by simp [results, Try.results114, go_sem, x0, x1]) rfl ?_
                  have hS := HS.out; rw [HhN.out] at hS
                  exact HOk.out a7 c7 N (hh - 1) z2 (by first | exact rfl | trivial) (by rw [hS]; exact HNl.out) (by rw [hS]) (by rw [hS]; exact HR.out.2.2) HF7.out (fun p hp => by have := HA2.out.af p hp; omega) HR.out.2.1
              have e36 : ((c : Int) == 36) = false := eqB_n h36
              have e37 : ((c : Int) == 37) = false := eqB_n h37
              obtain rfl : EE = 0 := HE.out.trans (if_neg (by omega))
              have HhN : Hid (heldN c hh = hh) := Lib.hid (by unfold heldN; rw [if_neg h36, if_neg h37])
              have g0 : U.cell? ⟨g, 0, none⟩ = some (.slice a7 N c7) := HA.out.x.cell 0
              have g1 : U.cell? ⟨g, 1, none⟩ = some (.int .i64 hh) := HA.out.x.cell 1
              have gf : U.frozen? ⟨g, 1, none⟩ = false := HA.out.x.frz 1
              have o0 : U.cell? ⟨w.heap.size + 1, 0, none⟩ = some (.int .i64 c) := HA.out.e.o.cell 0
              have r0 : U.cell? ⟨w.heap.size + 1 + 1 + 1, 0, none⟩ = some (.slice none 0 0) := HA.out.e.r.cell 0
              have q0 : U.frozen? ⟨w.heap.size + 1 + 1 + 1, 0, none⟩ = false := HA.out.e.r.frz 0
              have r1 : U.cell? ⟨w.heap.size + 1 + 1 + 1, 1, none⟩ = some (.int .i64 0) := HA.out.e.r.cell 1
              have q1 : U.frozen? ⟨w.heap.size + 1 + 1 + 1, 1, none⟩ = false := HA.out.e.r.frz 1
              go_wp2_with fail
              clear r0 r1 q0 q1
              have HR : Hid (Bx (U.setCell ⟨w.heap.size + 1 + 1 + 1, 0, none⟩ (.slice a7 N c7)) (w.heap.size + 1 + 1 + 1) #[.slice a7 N c7, .int .i64 0] 72 ∧ Below w.heap.size w (U.setCell ⟨w.heap.size + 1 + 1 + 1, 0, none⟩ (.slice a7 N c7)) ∧ Ints (U.setCell ⟨w.heap.size + 1 + 1 + 1, 0, none⟩ (.slice a7 N c7)) a7 (l.take left ++ pu)) := Lib.hid ⟨HA.out.e.r.set 0 _, HA.out.e.b.setCell (p := ⟨w.heap.size + 1 + 1 + 1, 0, none⟩) (by simp; omega) _, HA.out.i.far (fun p hp e => by have := HA.out.af p hp; omega) _ _⟩
              generalize U.setCell ⟨w.heap.size + 1 + 1 + 1, 0, none⟩ (.slice a7 N c7) = z1 at HR ⊢
              replace HR : Hid (Bx (z1.setCell ⟨w.heap.size + 1 + 1 + 1, 1, none⟩ (.int .i64 hh)) (w.heap.size + 1 + 1 + 1) #[.slice a7 N c7, .int .i64 hh] 72 ∧ Below w.heap.size w (z1.setCell ⟨w.heap.size + 1 + 1 + 1, 1, none⟩ (.int .i64 hh)) ∧ Ints (z1.setCell ⟨w.heap.size + 1 + 1 + 1, 1, none⟩ (.int .i64 hh)) a7 (l.take left ++ pu)) := Lib.hid ⟨HR.out.1.set 1 _, HR.out.2.1.setCell (p := ⟨w.heap.size + 1 + 1 + 1, 1, none⟩) (by simp; omega) _, HR.out.2.2.far (fun p hp e => by have := HA.out.af p hp; omega) _ _⟩
              generalize z1.setCell ⟨w.heap.size + 1 + 1 + 1, 1, none⟩ (.int .i64 hh) = z2 at HR ⊢
              have x0 : z2.cell? ⟨w.heap.size + 1 + 1 + 1, 0, none⟩ = some (.slice a7 N c7) := HR.out.1.cell 0
              have x1 : z2.cell? ⟨w.heap.size + 1 + 1 + 1, 1, none⟩ = some (.int .i64 hh) := HR.out.1.cell 1
              refine bodyPost_ret (v := .tuple #[.agg #[.slice a7 N c7, .int .i64 hh], .int .i64 0]) (by simp [results, Try.results114, go_sem, x0, x1]) rfl ?_
              have hS := HS.out; rw [HhN.out] at hS
              exact HOk.out a7 c7 N hh z2 (by first | exact rfl | trivial) (by rw [hS]; exact HNl.out) (by rw [hS]) (by rw [hS]; exact HR.out.2.2) HF7.out (fun p hp => by have := HA.out.af p hp; omega) HR.out.2.1
            · go_simp
              have HP : Hid (PendB (u1.alloc (.cells #[.slice none 0 0, .int .i64 0] 72)) v1 (u1.heap.size) #[.slice none 0 0, .int .i64 0]) := Lib.hid (PendB.newg (u1.heap.size) rfl HO.out #[.slice none 0 0, .int .i64 0])
              replace HO : Hid (OwX wr (u1.alloc (.cells #[.slice none 0 0, .int .i64 0] 72)) _ _ v1 _) := Lib.hid (HO.out.alloc _)
              have HG : Hid (wr.heap.size ≤ u1.heap.size) := Lib.hid (by have := HBu.out.size; (try simp only [World.size_alloc, World.size_drew] at this); omega)
              replace HBu : Hid (Below wr.heap.size wr (u1.alloc (.cells #[.slice none 0 0, .int .i64 0] 72))) := Lib.hid (HBu.out.alloc HBu.out.size _)
              refine hKK.out _ _ ⟨HBu.out, HX.out _ HBu.out⟩ (fun hHeld => ?_)
              clear hKK KK
              try simp only [Act.put, List.setIfInBounds_toArray, List.set_cons_zero, List.set_cons_succ]
              refine AnyE.ready (rs := [7]) (by kernel_rfl) (by simp) ?_
              refine (AllE.cons (o := { dst := some 107, op := Go.Op.call { callee := Go.Callee.builtin Go.Builtin.append, args := #[Go.Operand.tmp 105, Go.Operand.tmp 106], argTypes := #[48, 48] }, type := 48, pos := "ref.go:154", after := #[{ on := 5, ground := Go.Ground.data }, { on := 6, ground := Go.Ground.data }, { on := 5, ground := Go.Ground.chain }], guard := none }) rfl (fun KK hKK => ?_) AllE.nil)
              obtain ⟨v2, u2, hr1, ho1, hb1, hp1⟩ := HO.out.app2 (HPi.out _ HBu.out) (rfl) (by have := HPu.out; omega) pc5
              obtain ⟨a7, c7, rfl⟩ := own_slice ho1.o
              refine step_append_run rfl _ _ _ rfl _ _ _ _ rfl (by rfl) hr1 ?_
              clear hr1
              replace HBu : Hid (Below wr.heap.size wr u2) := Lib.hid (HBu.out.trans (hb1.mono HO.out.b0))
              replace HP := Lib.hid (hp1 _ _ HP.out)
              replace HO := Lib.hid ho1
              clear ho1 hb1 hp1
              refine hKK.out _ _ ⟨HBu.out, HX.out _ HBu.out⟩ (fun hHeld => ?_)
              clear hKK KK
              try simp only [Act.put, List.setIfInBounds_toArray, List.set_cons_zero, List.set_cons_succ]
              refine AnyE.take2 (i := 10) [] (oi := { dst := some 110, op := Go.Op.build 72 #[(0, Go.Operand.tmp 107), (1, Go.Operand.tmp 109)], type := 72, pos := "ref.go:154", after := #[{ on := 7, ground := Go.Ground.data }, { on := 9, ground := Go.Ground.data }], guard := none }) (v := ?_) rfl (by kernel_rfl) (by kernel_rfl) (by kernel_rfl) (by kernel_rfl) (fun _ _ _ h => h) (Or.inl ⟨by rfl, ?_⟩) (by assumption) ?_
              rotate_left
              · (intro w0 hSw; (try dsimp only at hSw); go_split_ands; go_simp; with_reducible rfl)
              try simp only [Act.put, List.setIfInBounds_toArray, List.set_cons_zero, List.set_cons_succ]
              have hg1 := pendB_lt HP.out
              refine AnyE.ready (rs := [12]) (by kernel_rfl) (by simp) ?_
              refine AllE.last (o := { dst := none, op := Go.Op.store 72 (Go.Operand.tmp 16) (Go.Operand.tmp 110), type := 0, pos := "ref.go:154", after := #[{ on := 11, ground := Go.Ground.data }, { on := 10, ground := Go.Ground.data }, { on := 7, ground := Go.Ground.chain }, { on := 0, ground := Go.Ground.phase }, { on := 1, ground := Go.Ground.phase }, { on := 2, ground := Go.Ground.phase }, { on := 3, ground := Go.Ground.phase }, { on := 4, ground := Go.Ground.phase }, { on := 5, ground := Go.Ground.phase }, { on := 6, ground := Go.Ground.phase }, { on := 7, ground := Go.Ground.phase }, { on := 8, ground := Go.Ground.phase }, { on := 9, ground := Go.Ground.phase }, { on := 10, ground := Go.Ground.phase }, { on := 11, ground := Go.Ground.phase }], guard := none }) rfl (by kernel_rfl) (fun KK hKK => ?_)
              obtain ⟨g, hge⟩ : ∃ q, q = u1.heap.size := ⟨_, rfl⟩
              replace HG : Hid (wr.heap.size ≤ g) := Lib.hid (by rw [hge]; exact HG.out)
              rw [← hge] at HP ⊢
              clear hge hg1
              have z0 : (u2).cell? ⟨g, 0, none⟩ = some (.slice none 0 0) := HP.out.1.cell 0
              have z1 : (u2).cell? ⟨g, 1, none⟩ = some (.int .i64 0) := HP.out.1.cell 1
              have y0 : (u2).frozen? ⟨g, 0, none⟩ = false := HP.out.1.frz 0
              have y1 : (u2).frozen? ⟨g, 1, none⟩ = false := HP.out.1.frz 1
              go_simp
              refine hKK.out _ _ ?_
              clear hKK KK
              try simp only [Act.put, List.setIfInBounds_toArray, List.set_cons_zero, List.set_cons_succ]
              clear z0 z1 y0 y1 hHeld
              obtain ⟨N, hNe⟩ : ∃ q, q = left + pu.length := ⟨_, rfl⟩
              rw [Nat.zero_add] at HO HP
              rw [← hNe] at HO HP ⊢
              obtain ⟨U, hU⟩ : ∃ q, q = ((u2).setCell ⟨g, 0, none⟩ (.slice a7 N c7)).setCell ⟨g, 1, none⟩ (.int .i64 hh) := ⟨_, rfl⟩
              rw [← hU]
              have HNl : Hid ((l.take left ++ pu).length = N) := Lib.hid (by rw [List.length_append, HLt.out, hNe])
              have HA : Hid (AfT P A c a b sz sa n sc hh w U g a7 N c7 hh (l.take left ++ pu)) := Lib.hid (by rw [hU]; exact AfT.mk' (HB.out.below HBu.out) HP.out HO.out HB.out.r.lt HG.out HNl.out)
              have HF7 : Hid (N ≤ c7) := Lib.hid (own_fit HO.out.o)
              clear hU hNe HP HO HG HBu
              by_cases h36 : c = 36
              · subst h36
                have g0 : U.cell? ⟨g, 0, none⟩ = some (.slice a7 N c7) := HA.out.x.cell 0
                have g1 : U.cell? ⟨g, 1, none⟩ = some (.int .i64 hh) := HA.out.x.cell 1
                have gf : U.frozen? ⟨g, 1, none⟩ = false := HA.out.x.frz 1
                have o0 : U.cell? ⟨w.heap.size + 1, 0, none⟩ = some (.int .i64 36) := HA.out.e.o.cell 0
                go_upto_region 22 with fail
                obtain ⟨U2, hU2⟩ : ∃ q, q = U.setCell ⟨g, 1, none⟩ (.int .i64 (hh + 1)) := ⟨_, rfl⟩
                have HA2 : Hid (AfT P A 36 a b sz sa n sc hh w U2 g a7 N c7 (hh + 1) (l.take left ++ pu)) := Lib.hid (by rw [hU2]; exact HA.out.held (hh + 1))
                rw [← hU2]
                clear hU2 g0 g1 gf o0
                have g0 : U2.cell? ⟨g, 0, none⟩ = some (.slice a7 N c7) := HA2.out.x.cell 0
                have g1 : U2.cell? ⟨g, 1, none⟩ = some (.int .i64 (hh + 1)) := HA2.out.x.cell 1
                have o0 : U2.cell? ⟨w.heap.size + 1, 0, none⟩ = some (.int .i64 36) := HA2.out.e.o.cell 0
                by_cases hcd : 10 ≤ hh
                · obtain rfl : EE = 25 := HE.out.trans (if_pos (.inl ⟨rfl, hcd⟩))
                  have d10 : decide ((10 : Int) < hh + 1) = true := decide_eq_true (by omega)
                  clear hcd
                  have r0 : U2.cell? ⟨w.heap.size + 1 + 1 + 1, 0, none⟩ = some (.slice none 0 0) := HA2.out.e.r.cell 0
                  have q0 : U2.frozen? ⟨w.heap.size + 1 + 1 + 1, 0, none⟩ = false := HA2.out.e.r.frz 0
                  have r1 : U2.cell? ⟨w.heap.size + 1 + 1 + 1, 1, none⟩ = some (.int .i64 0) := HA2.out.e.r.cell 1
                  have q1 : U2.frozen? ⟨w.heap.size + 1 + 1 + 1, 1, none⟩ = false := HA2.out.e.r.frz 1
                  go_wp2_with fail
                  clear r0 r1 q0 q1
                  have HR : Hid (Bx (U2.setCell ⟨w.heap.size + 1 + 1 + 1, 0, none⟩ (.slice none 0 0)) (w.heap.size + 1 + 1 + 1) #[.slice none 0 0, .int .i64 0] 72 ∧ Below w.heap.size w (U2.setCell ⟨w.heap.size + 1 + 1 + 1, 0, none⟩ (.slice none 0 0))) := Lib.hid ⟨HA2.out.e.r.set 0 _, HA2.out.e.b.setCell (p := ⟨w.heap.size + 1 + 1 + 1, 0, none⟩) (by simp; omega) _⟩
                  generalize U2.setCell ⟨w.heap.size + 1 + 1 + 1, 0, none⟩ (.slice none 0 0) = z1 at HR ⊢
                  replace HR : Hid (Bx (z1.setCell ⟨w.heap.size + 1 + 1 + 1, 1, none⟩ (.int .i64 0)) (w.heap.size + 1 + 1 + 1) #[.slice none 0 0, .int .i64 0] 72 ∧ Below w.heap.size w (z1.setCell ⟨w.heap.size + 1 + 1 + 1, 1, none⟩ (.int .i64 0))) := Lib.hid ⟨HR.out.1.set 1 _, HR.out.2.setCell (p := ⟨w.heap.size + 1 + 1 + 1, 1, none⟩) (by simp; omega) _⟩
                  generalize z1.setCell ⟨w.heap.size + 1 + 1 + 1, 1, none⟩ (.int .i64 0) = z2 at HR ⊢
                  have x0 : z2.cell? ⟨w.heap.size + 1 + 1 + 1, 0, none⟩ = some (.slice none 0 0) := HR.out.1.cell 0
                  have x1 : z2.cell? ⟨w.heap.size + 1 + 1 + 1, 1, none⟩ = some (.int .i64 0) := HR.out.1.cell 1
                  exact bodyPost_ret (v := .tuple #[.agg #[.slice none 0 0, .int .i64 0], .int .i64 25]) (by simp [results, Try.results114, go_sem, x0, x1]) rfl (HErr.out 25 _ (by first | exact rfl | trivial) (by decide) HR.out.2)
                · obtain rfl : EE = 0 := HE.out.trans (if_neg (by omega))
                  have HhN : Hid (heldN 36 hh = (hh + 1)) := Lib.hid rfl
                  have d10 : decide ((10 : Int) < hh + 1) = false := decide_eq_false (by omega)
                  clear hcd
                  have r0 : U2.cell? ⟨w.heap.size + 1 + 1 + 1, 0, none⟩ = some (.slice none 0 0) := HA2.out.e.r.cell 0
                  have q0 : U2.frozen? ⟨w.heap.size + 1 + 1 + 1, 0, none⟩ = false := HA2.out.e.r.frz 0
                  have r1 : U2.cell? ⟨w.heap.size + 1 + 1 + 1, 1, none⟩ = some (.int .i64 0) := HA2.out.e.r.cell 1
                  have q1 : U2.frozen? ⟨w.heap.size + 1 + 1 + 1, 1, none⟩ = false := HA2.out.e.r.frz 1
                  go_wp2_with fail
                  clear r0 r1 q0 q1
                  have HR : Hid (Bx (U2.setCell ⟨w.heap.size + 1 + 1 + 1, 0, none⟩ (.slice a7 N c7)) (w.heap.size + 1 + 1 + 1) #[.slice a7 N c7, .int .i64 0] 72 ∧ Below w.heap.size w (U2.setCell ⟨w.heap.size + 1 + 1 + 1, 0, none⟩ (.slice a7 N c7)) ∧ Ints (U2.setCell ⟨w.heap.size + 1 + 1 + 1, 0, none⟩ (.slice a7 N c7)) a7 (l.take left ++ pu)) := Lib.hid ⟨HA2.out.e.r.set 0 _, HA2.out.e.b.setCell (p := ⟨w.heap.size + 1 + 1 + 1, 0, none⟩) (by simp; omega) _, HA2.out.i.far (fun p hp e => by have := HA2.out.af p hp; omega) _ _⟩
                  generalize U2.setCell ⟨w.heap.size + 1 + 1 + 1, 0, none⟩ (.slice a7 N c7) = z1 at HR ⊢
                  replace HR : Hid (Bx (z1.setCell ⟨w.heap.size + 1 + 1 + 1, 1, none⟩ (.int .i64 (hh + 1))) (w.heap.size + 1 + 1 + 1) #[.slice a7 N c7, .int .i64 (hh + 1)] 72 ∧ Below w.heap.size w (z1.setCell ⟨w.heap.size + 1 + 1 + 1, 1, none⟩ (.int .i64 (hh + 1))) ∧ Ints (z1.setCell ⟨w.heap.size + 1 + 1 + 1, 1, none⟩ (.int .i64 (hh + 1))) a7 (l.take left ++ pu)) := Lib.hid ⟨HR.out.1.set 1 _, HR.out.2.1.setCell (p := ⟨w.heap.size + 1 + 1 + 1, 1, none⟩) (by simp; omega) _, HR.out.2.2.far (fun p hp e => by have := HA2.out.af p hp; omega) _ _⟩
                  generalize z1.setCell ⟨w.heap.size + 1 + 1 + 1, 1, none⟩ (.int .i64 (hh + 1)) = z2 at HR ⊢
                  have x0 : z2.cell? ⟨w.heap.size + 1 + 1 + 1, 0, none⟩ = some (.slice a7 N c7) := HR.out.1.cell 0
                  have x1 : z2.cell? ⟨w.heap.size + 1 + 1 + 1, 1, none⟩ = some (.int .i64 (hh + 1)) := HR.out.1.cell 1
                  refine bodyPost_ret (v := .tuple #[.agg #[.slice a7 N c7, .int .i64 (hh + 1)], .int .i64 0]) (by simp [results, Try.results114, go_sem, x0, x1]) rfl ?_
                  have hS := HS.out; rw [HhN.out] at hS
                  exact HOk.out a7 c7 N (hh + 1) z2 (by first | exact rfl | trivial) (by rw [hS]; exact HNl.out) (by rw [hS]) (by rw [hS]; exact HR.out.2.2) HF7.out (fun p hp => by have := HA2.out.af p hp; omega) HR.out.2.1
              by_cases h37 : c = 37
              · subst h37
                have g0 : U.cell? ⟨g, 0, none⟩ = some (.slice a7 N c7) := HA.out.x.cell 0
                have g1 : U.cell? ⟨g, 1, none⟩ = some (.int .i64 hh) := HA.out.x.cell 1
                have gf : U.frozen? ⟨g, 1, none⟩ = false := HA.out.x.frz 1
                have o0 : U.cell? ⟨w.heap.size + 1, 0, none⟩ = some (.int .i64 37) := HA.out.e.o.cell 0
                go_upto_region 22 with fail
                obtain ⟨U2, hU2⟩ : ∃ q, q = U.setCell ⟨g, 1, none⟩ (.int .i64 (hh - 1)) := ⟨_, rfl⟩
                have HA2 : Hid (AfT P A 37 a b sz sa n sc hh w U2 g a7 N c7 (hh - 1) (l.take left ++ pu)) := Lib.hid (by rw [hU2]; exact HA.out.held (hh - 1))
                rw [← hU2]
                clear hU2 g0 g1 gf o0
                have g0 : U2.cell? ⟨g, 0, none⟩ = some (.slice a7 N c7) := HA2.out.x.cell 0
                have g1 : U2.cell? ⟨g, 1, none⟩ = some (.int .i64 (hh - 1)) := HA2.out.x.cell 1
                have o0 : U2.cell? ⟨w.heap.size + 1, 0, none⟩ = some (.int .i64 37) := HA2.out.e.o.cell 0
                by_cases hcd : hh = 0
                · obtain rfl : EE = 25 := HE.out.trans (if_pos (.inr ⟨rfl, hcd⟩))
                  have d10 : decide (hh - 1 < 0) = true := decide_eq_true (by omega)
                  clear hcd
                  have r0 : U2.cell? ⟨w.heap.size + 1 + 1 + 1, 0, none⟩ = some (.slice none 0 0) := HA2.out.e.r.cell 0
                  have q0 : U2.frozen? ⟨w.heap.size + 1 + 1 + 1, 0, none⟩ = false := HA2.out.e.r.frz 0
                  have r1 : U2.cell? ⟨w.heap.size + 1 + 1 + 1, 1, none⟩ = some (.int .i64 0) := HA2.out.e.r.cell 1
                  have q1 : U2.frozen? ⟨w.heap.size + 1 + 1 + 1, 1, none⟩ = false := HA2.out.e.r.frz 1
                  go_wp2_with fail
                  clear r0 r1 q0 q1
                  have HR : Hid (Bx (U2.setCell ⟨w.heap.size + 1 + 1 + 1, 0, none⟩ (.slice none 0 0)) (w.heap.size + 1 + 1 + 1) #[.slice none 0 0, .int .i64 0] 72 ∧ Below w.heap.size w (U2.setCell ⟨w.heap.size + 1 + 1 + 1, 0, none⟩ (.slice none 0 0))) := Lib.hid ⟨HA2.out.e.r.set 0 _, HA2.out.e.b.setCell (p := ⟨w.heap.size + 1 + 1 + 1, 0, none⟩) (by simp; omega) _⟩
                  generalize U2.setCell ⟨w.heap.size + 1 + 1 + 1, 0, none⟩ (.slice none 0 0) = z1 at HR ⊢
                  replace HR : Hid (Bx (z1.setCell ⟨w.heap.size + 1 + 1 + 1, 1, none⟩ (.int .i64 0)) (w.heap.size + 1 + 1 + 1) #[.slice none 0 0, .int .i64 0] 72 ∧ Below w.heap.size w (z1.setCell ⟨w.heap.size + 1 + 1 + 1, 1, none⟩ (.int .i64 0))) := Lib.hid ⟨HR.out.1.set 1 _, HR.out.2.setCell (p := ⟨w.heap.size + 1 + 1 + 1, 1, none⟩) (by simp; omega) _⟩
                  generalize z1.setCell ⟨w.heap.size + 1 + 1 + 1, 1, none⟩ (.int .i64 0) = z2 at HR ⊢
                  have x0 : z2.cell? ⟨w.heap.size + 1 + 1 + 1, 0, none⟩ = some (.slice none 0 0) := HR.out.1.cell 0
                  have x1 : z2.cell? ⟨w.heap.size + 1 + 1 + 1, 1, none⟩ = some (.int .i64 0) := HR.out.1.cell 1
                  exact bodyPost_ret (v := .tuple #[.agg #[.slice none 0 0, .int .i64 0], .int .i64 25]) (by simp [results, Try.results114, go_sem, x0, x1]) rfl (HErr.out 25 _ (by first | exact rfl | trivial) (by decide) HR.out.2)
                · obtain rfl : EE = 0 := HE.out.trans (if_neg (by omega))
                  have HhN : Hid (heldN 37 hh = (hh - 1)) := Lib.hid rfl
                  have d10 : decide (hh - 1 < 0) = false := decide_eq_false (by omega)
                  clear hcd
                  have r0 : U2.cell? ⟨w.heap.size + 1 + 1 + 1, 0, none⟩ = some (.slice none 0 0) := HA2.out.e.r.cell 0
                  have q0 : U2.frozen? ⟨w.heap.size + 1 + 1 + 1, 0, none⟩ = false := HA2.out.e.r.frz 0
                  have r1 : U2.cell? ⟨w.heap.size + 1 + 1 + 1, 1, none⟩ = some (.int .i64 0) := HA2.out.e.r.cell 1
                  have q1 : U2.frozen? ⟨w.heap.size + 1 + 1 + 1, 1, none⟩ = false := HA2.out.e.r.frz 1
                  go_wp2_with fail
                  clear r0 r1 q0 q1
                  have HR : Hid (Bx (U2.setCell ⟨w.heap.size + 1 + 1 + 1, 0, none⟩ (.slice a7 N c7)) (w.heap.size + 1 + 1 + 1) #[.slice a7 N c7, .int .i64 0] 72 ∧ Below w.heap.size w (U2.setCell ⟨w.heap.size + 1 + 1 + 1, 0, none⟩ (.slice a7 N c7)) ∧ Ints (U2.setCell ⟨w.heap.size + 1 + 1 + 1, 0, none⟩ (.slice a7 N c7)) a7 (l.take left ++ pu)) := Lib.hid ⟨HA2.out.e.r.set 0 _, HA2.out.e.b.setCell (p := ⟨w.heap.size + 1 + 1 + 1, 0, none⟩) (by simp; omega) _, HA2.out.i.far (fun p hp e => by have := HA2.out.af p hp; omega) _ _⟩
                  generalize U2.setCell ⟨w.heap.size + 1 + 1 + 1, 0, none⟩ (.slice a7 N c7) = z1 at HR ⊢
                  replace HR : Hid (Bx (z1.setCell ⟨w.heap.size + 1 + 1 + 1, 1, none⟩ (.int .i64 (hh - 1))) (w.heap.size + 1 + 1 + 1) #[.slice a7 N c7, .int .i64 (hh - 1)] 72 ∧ Below w.heap.size w (z1.setCell ⟨w.heap.size + 1 + 1 + 1, 1, none⟩ (.int .i64 (hh - 1))) ∧ Ints (z1.setCell ⟨w.heap.size + 1 + 1 + 1, 1, none⟩ (.int .i64 (hh - 1))) a7 (l.take left ++ pu)) := Lib.hid ⟨HR.out.1.set 1 _, HR.out.2.1.setCell (p := ⟨w.heap.size + 1 + 1 + 1, 1, none⟩) (by simp; omega) _, HR.out.2.2.far (fun p hp e => by have := HA2.out.af p hp; omega) _ _⟩
                  generalize z1.setCell ⟨w.heap.size + 1 + 1 + 1, 1, none⟩ (.int .i64 (hh - 1)) = z2 at HR ⊢
                  have x0 : z2.cell? ⟨w.heap.size + 1 + 1 + 1, 0, none⟩ = some (.slice a7 N c7) := HR.out.1.cell 0
                  have x1 : z2.cell? ⟨w.heap.size + 1 + 1 + 1, 1, none⟩ = some (.int .i64 (hh - 1)) := HR.out.1.cell 1
                  refine bodyPost_ret (v := .tuple #[.agg #[.slice a7 N c7, .int .i64 (hh - 1)], .int .i64 0]) (by simp [results, Try.results114, go_sem, x0, x1]) rfl ?_
                  have hS := HS.out; rw [HhN.out] at hS
                  exact HOk.out a7 c7 N (hh - 1) z2 (by first | exact rfl | trivial) (by rw [hS]; exact HNl.out) (by rw [hS]) (by rw [hS]; exact HR.out.2.2) HF7.out (fun p hp => by have := HA2.out.af p hp; omega) HR.out.2.1
              have e36 : ((c : Int) == 36) = false := eqB_n h36
              have e37 : ((c : Int) == 37) = false := eqB_n h37
              obtain rfl : EE = 0 := HE.out.trans (if_neg (by omega))
              have HhN : Hid (heldN c hh = hh) := Lib.hid (by unfold heldN; rw [if_neg h36, if_neg h37])
              have g0 : U.cell? ⟨g, 0, none⟩ = some (.slice a7 N c7) := HA.out.x.cell 0
              have g1 : U.cell? ⟨g, 1, none⟩ = some (.int .i64 hh) := HA.out.x.cell 1
              have gf : U.frozen? ⟨g, 1, none⟩ = false := HA.out.x.frz 1
              have o0 : U.cell? ⟨w.heap.size + 1, 0, none⟩ = some (.int .i64 c) := HA.out.e.o.cell 0
              have r0 : U.cell? ⟨w.heap.size + 1 + 1 + 1, 0, none⟩ = some (.slice none 0 0) := HA.out.e.r.cell 0
              have q0 : U.frozen? ⟨w.heap.size + 1 + 1 + 1, 0, none⟩ = false := HA.out.e.r.frz 0
              have r1 : U.cell? ⟨w.heap.size + 1 + 1 + 1, 1, none⟩ = some (.int .i64 0) := HA.out.e.r.cell 1
              have q1 : U.frozen? ⟨w.heap.size + 1 + 1 + 1, 1, none⟩ = false := HA.out.e.r.frz 1
              go_wp2_with fail
              clear r0 r1 q0 q1
              have HR : Hid (Bx (U.setCell ⟨w.heap.size + 1 + 1 + 1, 0, none⟩ (.slice a7 N c7)) (w.heap.size + 1 + 1 + 1) #[.slice a7 N c7, .int .i64 0] 72 ∧ Below w.heap.size w (U.setCell ⟨w.heap.size + 1 + 1 + 1, 0, none⟩ (.slice a7 N c7)) ∧ Ints (U.setCell ⟨w.heap.size + 1 + 1 + 1, 0, none⟩ (.slice a7 N c7)) a7 (l.take left ++ pu)) := Lib.hid ⟨HA.out.e.r.set 0 _, HA.out.e.b.setCell (p := ⟨w.heap.size + 1 + 1 + 1, 0, none⟩) (by simp; omega) _, HA.out.i.far (fun p hp e => by have := HA.out.af p hp; omega) _ _⟩
              generalize U.setCell ⟨w.heap.size + 1 + 1 + 1, 0, none⟩ (.slice a7 N c7) = z1 at HR ⊢
              replace HR : Hid (Bx (z1.setCell ⟨w.heap.size + 1 + 1 + 1, 1, none⟩ (.int .i64 hh)) (w.heap.size + 1 + 1 + 1) #[.slice a7 N c7, .int .i64 hh] 72 ∧ Below w.heap.size w (z1.setCell ⟨w.heap.size + 1 + 1 + 1, 1, none⟩ (.int .i64 hh)) ∧ Ints (z1.setCell ⟨w.heap.size + 1 + 1 + 1, 1, none⟩ (.int .i64 hh)) a7 (l.take left ++ pu)) := Lib.hid ⟨HR.out.1.set 1 _, HR.out.2.1.setCell (p := ⟨w.heap.size + 1 + 1 + 1, 1, none⟩) (by simp; omega) _, HR.out.2.2.far (fun p hp e => by have := HA.out.af p hp; omega) _ _⟩
              generalize z1.setCell ⟨w.heap.size + 1 + 1 + 1, 1, none⟩ (.int .i64 hh) = z2 at HR ⊢
              have x0 : z2.cell? ⟨w.heap.size + 1 + 1 + 1, 0, none⟩ = some (.slice a7 N c7) := HR.out.1.cell 0
              have x1 : z2.cell? ⟨w.heap.size + 1 + 1 + 1, 1, none⟩ = some (.int .i64 hh) := HR.out.1.cell 1
              refine bodyPost_ret (v := .tuple #[.agg #[.slice a7 N c7, .int .i64 hh], .int .i64 0]) (by simp [results, Try.results114, go_sem, x0, x1]) rfl ?_
              have hS := HS.out; rw [HhN.out] at hS
              exact HOk.out a7 c7 N hh z2 (by first | exact rfl | trivial) (by rw [hS]; exact HNl.out) (by rw [hS]) (by rw [hS]; exact HR.out.2.2) HF7.out (fun p hp => by have := HA.out.af p hp; omega) HR.out.2.1
          · go_simp
            have HP : Hid (PendB ((wr.drew.alloc (.cells #[] 3)).alloc (.cells #[.slice none 0 0, .int .i64 0] 72)) (.slice (some ⟨wr.heap.size, 0, none⟩) 0 0) (wr.heap.size + 1) #[.slice none 0 0, .int .i64 0]) := Lib.hid (PendB.newg (wr.heap.size + 1) (by simp only [World.size_alloc, World.size_drew]) HO.out #[.slice none 0 0, .int .i64 0])
            replace HO : Hid (OwX wr ((wr.drew.alloc (.cells #[] 3)).alloc (.cells #[.slice none 0 0, .int .i64 0] 72)) _ _ (.slice (some ⟨wr.heap.size, 0, none⟩) 0 0) _) := Lib.hid (HO.out.alloc _)
            have HG : Hid (wr.heap.size ≤ wr.heap.size + 1) := Lib.hid (by have := HBu.out.size; (try simp only [World.size_alloc, World.size_drew] at this); omega)
            replace HBu : Hid (Below wr.heap.size wr ((wr.drew.alloc (.cells #[] 3)).alloc (.cells #[.slice none 0 0, .int .i64 0] 72))) := Lib.hid (HBu.out.alloc HBu.out.size _)
            refine hKK.out _ _ ⟨HBu.out, HX.out _ HBu.out⟩ (fun hHeld => ?_)
            clear hKK KK
            try simp only [Act.put, List.setIfInBounds_toArray, List.set_cons_zero, List.set_cons_succ]
            refine AnyE.ready (rs := [5]) (by kernel_rfl) (by simp) ?_
            refine (AllE.cons (o := { dst := some 105, op := Go.Op.call { callee := Go.Callee.builtin Go.Builtin.append, args := #[Go.Operand.tmp 100, Go.Operand.tmp 104], argTypes := #[48, 48] }, type := 48, pos := "ref.go:154", after := #[{ on := 0, ground := Go.Ground.data }, { on := 4, ground := Go.Ground.data }], guard := none }) rfl (fun KK hKK => ?_) AllE.nil)
            obtain ⟨v1, u1, hr1, ho1, hb1, hp1⟩ := HO.out.app2 (HId.out _ HBu.out) (HLt.out) (by omega) sc
            refine step_append_run rfl _ _ _ rfl _ _ _ _ rfl (by rfl) hr1 ?_
            clear hr1
            replace HBu : Hid (Below wr.heap.size wr u1) := Lib.hid (HBu.out.trans (hb1.mono HO.out.b0))
            replace HP := Lib.hid (hp1 _ _ HP.out)
            replace HO := Lib.hid ho1
            clear ho1 hb1 hp1
            refine hKK.out _ _ ⟨HBu.out, HX.out _ HBu.out⟩ (fun hHeld => ?_)
            clear hKK KK
            try simp only [Act.put, List.setIfInBounds_toArray, List.set_cons_zero, List.set_cons_succ]
            refine AnyE.ready (rs := [7]) (by kernel_rfl) (by simp) ?_
            refine (AllE.cons (o := { dst := some 107, op := Go.Op.call { callee := Go.Callee.builtin Go.Builtin.append, args := #[Go.Operand.tmp 105, Go.Operand.tmp 106], argTypes := #[48, 48] }, type := 48, pos := "ref.go:154", after := #[{ on := 5, ground := Go.Ground.data }, { on := 6, ground := Go.Ground.data }, { on := 5, ground := Go.Ground.chain }], guard := none }) rfl (fun KK hKK => ?_) AllE.nil)
            obtain ⟨v2, u2, hr1, ho1, hb1, hp1⟩ := HO.out.app2 (HPi.out _ HBu.out) (rfl) (by have := HPu.out; omega) pc5
            obtain ⟨a7, c7, rfl⟩ := own_slice ho1.o
            refine step_append_run rfl _ _ _ rfl _ _ _ _ rfl (by rfl) hr1 ?_
            clear hr1
            replace HBu : Hid (Below wr.heap.size wr u2) := Lib.hid (HBu.out.trans (hb1.mono HO.out.b0))
            replace HP := Lib.hid (hp1 _ _ HP.out)
            replace HO := Lib.hid ho1
            clear ho1 hb1 hp1
            refine hKK.out _ _ ⟨HBu.out, HX.out _ HBu.out⟩ (fun hHeld => ?_)
            clear hKK KK
            try simp only [Act.put, List.setIfInBounds_toArray, List.set_cons_zero, List.set_cons_succ]
            refine AnyE.take2 (i := 10) [] (oi := { dst := some 110, op := Go.Op.build 72 #[(0, Go.Operand.tmp 107), (1, Go.Operand.tmp 109)], type := 72, pos := "ref.go:154", after := #[{ on := 7, ground := Go.Ground.data }, { on := 9, ground := Go.Ground.data }], guard := none }) (v := ?_) rfl (by kernel_rfl) (by kernel_rfl) (by kernel_rfl) (by kernel_rfl) (fun _ _ _ h => h) (Or.inl ⟨by rfl, ?_⟩) (by assumption) ?_
            rotate_left
            · (intro w0 hSw; (try dsimp only at hSw); go_split_ands; go_simp; with_reducible rfl)
            try simp only [Act.put, List.setIfInBounds_toArray, List.set_cons_zero, List.set_cons_succ]
            have hg1 := pendB_lt HP.out
            refine AnyE.ready (rs := [12]) (by kernel_rfl) (by simp) ?_
            refine AllE.last (o := { dst := none, op := Go.Op.store 72 (Go.Operand.tmp 16) (Go.Operand.tmp 110), type := 0, pos := "ref.go:154", after := #[{ on := 11, ground := Go.Ground.data }, { on := 10, ground := Go.Ground.data }, { on := 7, ground := Go.Ground.chain }, { on := 0, ground := Go.Ground.phase }, { on := 1, ground := Go.Ground.phase }, { on := 2, ground := Go.Ground.phase }, { on := 3, ground := Go.Ground.phase }, { on := 4, ground := Go.Ground.phase }, { on := 5, ground := Go.Ground.phase }, { on := 6, ground := Go.Ground.phase }, { on := 7, ground := Go.Ground.phase }, { on := 8, ground := Go.Ground.phase }, { on := 9, ground := Go.Ground.phase }, { on := 10, ground := Go.Ground.phase }, { on := 11, ground := Go.Ground.phase }], guard := none }) rfl (by kernel_rfl) (fun KK hKK => ?_)
            obtain ⟨g, hge⟩ : ∃ q, q = wr.heap.size + 1 := ⟨_, rfl⟩
            replace HG : Hid (wr.heap.size ≤ g) := Lib.hid (by rw [hge]; exact HG.out)
            rw [← hge] at HP ⊢
            clear hge hg1
            have z0 : (u2).cell? ⟨g, 0, none⟩ = some (.slice none 0 0) := HP.out.1.cell 0
            have z1 : (u2).cell? ⟨g, 1, none⟩ = some (.int .i64 0) := HP.out.1.cell 1
            have y0 : (u2).frozen? ⟨g, 0, none⟩ = false := HP.out.1.frz 0
            have y1 : (u2).frozen? ⟨g, 1, none⟩ = false := HP.out.1.frz 1
            go_simp
            refine hKK.out _ _ ?_
            clear hKK KK
            try simp only [Act.put, List.setIfInBounds_toArray, List.set_cons_zero, List.set_cons_succ]
            clear z0 z1 y0 y1 hHeld
            obtain ⟨N, hNe⟩ : ∃ q, q = left + pu.length := ⟨_, rfl⟩
            rw [Nat.zero_add] at HO HP
            rw [← hNe] at HO HP ⊢
            obtain ⟨U, hU⟩ : ∃ q, q = ((u2).setCell ⟨g, 0, none⟩ (.slice a7 N c7)).setCell ⟨g, 1, none⟩ (.int .i64 hh) := ⟨_, rfl⟩
            rw [← hU]
            have HNl : Hid ((l.take left ++ pu).length = N) := Lib.hid (by rw [List.length_append, HLt.out, hNe])
            have HA : Hid (AfT P A c a b sz sa n sc hh w U g a7 N c7 hh (l.take left ++ pu)) := Lib.hid (by rw [hU]; exact AfT.mk' (HB.out.below HBu.out) HP.out HO.out HB.out.r.lt HG.out HNl.out)
            have HF7 : Hid (N ≤ c7) := Lib.hid (own_fit HO.out.o)
            clear hU hNe HP HO HG HBu
            by_cases h36 : c = 36
            · subst h36
              have g0 : U.cell? ⟨g, 0, none⟩ = some (.slice a7 N c7) := HA.out.x.cell 0
              have g1 : U.cell? ⟨g, 1, none⟩ = some (.int .i64 hh) := HA.out.x.cell 1
              have gf : U.frozen? ⟨g, 1, none⟩ = false := HA.out.x.frz 1
              have o0 : U.cell? ⟨w.heap.size + 1, 0, none⟩ = some (.int .i64 36) := HA.out.e.o.cell 0
              go_upto_region 22 with fail
              obtain ⟨U2, hU2⟩ : ∃ q, q = U.setCell ⟨g, 1, none⟩ (.int .i64 (hh + 1)) := ⟨_, rfl⟩
              have HA2 : Hid (AfT P A 36 a b sz sa n sc hh w U2 g a7 N c7 (hh + 1) (l.take left ++ pu)) := Lib.hid (by rw [hU2]; exact HA.out.held (hh + 1))
              rw [← hU2]
              clear hU2 g0 g1 gf o0
              have g0 : U2.cell? ⟨g, 0, none⟩ = some (.slice a7 N c7) := HA2.out.x.cell 0
              have g1 : U2.cell? ⟨g, 1, none⟩ = some (.int .i64 (hh + 1)) := HA2.out.x.cell 1
              have o0 : U2.cell? ⟨w.heap.size + 1, 0, none⟩ = some (.int .i64 36) := HA2.out.e.o.cell 0
              by_cases hcd : 10 ≤ hh
              · obtain rfl : EE = 25 := HE.out.trans (if_pos (.inl ⟨rfl, hcd⟩))
                have d10 : decide ((10 : Int) < hh + 1) = true := decide_eq_true (by omega)
                clear hcd
                have r0 : U2.cell? ⟨w.heap.size + 1 + 1 + 1, 0, none⟩ = some (.slice none 0 0) := HA2.out.e.r.cell 0
                have q0 : U2.frozen? ⟨w.heap.size + 1 + 1 + 1, 0, none⟩ = false := HA2.out.e.r.frz 0
                have r1 : U2.cell? ⟨w.heap.size + 1 + 1 + 1, 1, none⟩ = some (.int .i64 0) := HA2.out.e.r.cell 1
                have q1 : U2.frozen? ⟨w.heap.size + 1 + 1 + 1, 1, none⟩ = false := HA2.out.e.r.frz 1
                go_wp2_with fail
                clear r0 r1 q0 q1
                have HR : Hid (Bx (U2.setCell ⟨w.heap.size + 1 + 1 + 1, 0, none⟩ (.slice none 0 0)) (w.heap.size + 1 + 1 + 1) #[.slice none 0 0, .int .i64 0] 72 ∧ Below w.heap.size w (U2.setCell ⟨w.heap.size + 1 + 1 + 1, 0, none⟩ (.slice none 0 0))) := Lib.hid ⟨HA2.out.e.r.set 0 _, HA2.out.e.b.setCell (p := ⟨w.heap.size + 1 + 1 + 1, 0, none⟩) (by simp; omega) _⟩
                generalize U2.setCell ⟨w.heap.size + 1 + 1 + 1, 0, none⟩ (.slice none 0 0) = z1 at HR ⊢
                replace HR : Hid (Bx (z1.setCell ⟨w.heap.size + 1 + 1 + 1, 1, none⟩ (.int .i64 0)) (w.heap.size + 1 + 1 + 1) #[.slice none 0 0, .int .i64 0] 72 ∧ Below w.heap.size w (z1.setCell ⟨w.heap.size + 1 + 1 + 1, 1, none⟩ (.int .i64 0))) := Lib.hid ⟨HR.out.1.set 1 _, HR.out.2.setCell (p := ⟨w.heap.size + 1 + 1 + 1, 1, none⟩) (by simp; omega) _⟩
                generalize z1.setCell ⟨w.heap.size + 1 + 1 + 1, 1, none⟩ (.int .i64 0) = z2 at HR ⊢
                have x0 : z2.cell? ⟨w.heap.size + 1 + 1 + 1, 0, none⟩ = some (.slice none 0 0) := HR.out.1.cell 0
                have x1 : z2.cell? ⟨w.heap.size + 1 + 1 + 1, 1, none⟩ = some (.int .i64 0) := HR.out.1.cell 1
                exact bodyPost_ret (v := .tuple #[.agg #[.slice none 0 0, .int .i64 0], .int .i64 25]) (by simp [results, Try.results114, go_sem, x0, x1]) rfl (HErr.out 25 _ (by first | exact rfl | trivial) (by decide) HR.out.2)
              · obtain rfl : EE = 0 := HE.out.trans (if_neg (by omega))
                have HhN : Hid (heldN 36 hh = (hh + 1)) := Lib.hid rfl
                have d10 : decide ((10 : Int) < hh + 1) = false := decide_eq_false (by omega)
                clear hcd
                have r0 : U2.cell? ⟨w.heap.size + 1 + 1 + 1, 0, none⟩ = some (.slice none 0 0) := HA2.out.e.r.cell 0
                have q0 : U2.frozen? ⟨w.heap.size + 1 + 1 + 1, 0, none⟩ = false := HA2.out.e.r.frz 0
                have r1 : U2.cell? ⟨w.heap.size + 1 + 1 + 1, 1, none⟩ = some (.int .i64 0) := HA2.out.e.r.cell 1
                have q1 : U2.frozen? ⟨w.heap.size + 1 + 1 + 1, 1, none⟩ = false := HA2.out.e.r.frz 1
                go_wp2_with fail
                clear r0 r1 q0 q1
                have HR : Hid (Bx (U2.setCell ⟨w.heap.size + 1 + 1 + 1, 0, none⟩ (.slice a7 N c7)) (w.heap.size + 1 + 1 + 1) #[.slice a7 N c7, .int .i64 0] 72 ∧ Below w.heap.size w (U2.setCell ⟨w.heap.size + 1 + 1 + 1, 0, none⟩ (.slice a7 N c7)) ∧ Ints (U2.setCell ⟨w.heap.size + 1 + 1 + 1, 0, none⟩ (.slice a7 N c7)) a7 (l.take left ++ pu)) := Lib.hid ⟨HA2.out.e.r.set 0 _, HA2.out.e.b.setCell (p := ⟨w.heap.size + 1 + 1 + 1, 0, none⟩) (by simp; omega) _, HA2.out.i.far (fun p hp e => by have := HA2.out.af p hp; omega) _ _⟩
                generalize U2.setCell ⟨w.heap.size + 1 + 1 + 1, 0, none⟩ (.slice a7 N c7) = z1 at HR ⊢
                replace HR : Hid (Bx (z1.setCell ⟨w.heap.size + 1 + 1 + 1, 1, none⟩ (.int .i64 (hh + 1))) (w.heap.size + 1 + 1 + 1) #[.slice a7 N c7, .int .i64 (hh + 1)] 72 ∧ Below w.heap.size w (z1.setCell ⟨w.heap.size + 1 + 1 + 1, 1, none⟩ (.int .i64 (hh + 1))) ∧ Ints (z1.setCell ⟨w.heap.size + 1 + 1 + 1, 1, none⟩ (.int .i64 (hh + 1))) a7 (l.take left ++ pu)) := Lib.hid ⟨HR.out.1.set 1 _, HR.out.2.1.setCell (p := ⟨w.heap.size + 1 + 1 + 1, 1, none⟩) (by simp; omega) _, HR.out.2.2.far (fun p hp e => by have := HA2.out.af p hp; omega) _ _⟩
                generalize z1.setCell ⟨w.heap.size + 1 + 1 + 1, 1, none⟩ (.int .i64 (hh + 1)) = z2 at HR ⊢
                have x0 : z2.cell? ⟨w.heap.size + 1 + 1 + 1, 0, none⟩ = some (.slice a7 N c7) := HR.out.1.cell 0
                have x1 : z2.cell? ⟨w.heap.size + 1 + 1 + 1, 1, none⟩ = some (.int .i64 (hh + 1)) := HR.out.1.cell 1
                refine bodyPost_ret (v := .tuple #[.agg #[.slice a7 N c7, .int .i64 (hh + 1)], .int .i64 0]) (by simp [results, Try.results114, go_sem, x0, x1]) rfl ?_
                have hS := HS.out; rw [HhN.out] at hS
                exact HOk.out a7 c7 N (hh + 1) z2 (by first | exact rfl | trivial) (by rw [hS]; exact HNl.out) (by rw [hS]) (by rw [hS]; exact HR.out.2.2) HF7.out (fun p hp => by have := HA2.out.af p hp; omega) HR.out.2.1
            by_cases h37 : c = 37
            · subst h37
              have g0 : U.cell? ⟨g, 0, none⟩ = some (.slice a7 N c7) := HA.out.x.cell 0
              have g1 : U.cell? ⟨g, 1, none⟩ = some (.int .i64 hh) := HA.out.x.cell 1
              have gf : U.frozen? ⟨g, 1, none⟩ = false := HA.out.x.frz 1
              have o0 : U.cell? ⟨w.heap.size + 1, 0, none⟩ = some (.int .i64 37) := HA.out.e.o.cell 0
              go_upto_region 22 with fail
              obtain ⟨U2, hU2⟩ : ∃ q, q = U.setCell ⟨g, 1, none⟩ (.int .i64 (hh - 1)) := ⟨_, rfl⟩
              have HA2 : Hid (AfT P A 37 a b sz sa n sc hh w U2 g a7 N c7 (hh - 1) (l.take left ++ pu)) := Lib.hid (by rw [hU2]; exact HA.out.held (hh - 1))
              rw [← hU2]
              clear hU2 g0 g1 gf o0
              have g0 : U2.cell? ⟨g, 0, none⟩ = some (.slice a7 N c7) := HA2.out.x.cell 0
              have g1 : U2.cell? ⟨g, 1, none⟩ = some (.int .i64 (hh - 1)) := HA2.out.x.cell 1
              have o0 : U2.cell? ⟨w.heap.size + 1, 0, none⟩ = some (.int .i64 37) := HA2.out.e.o.cell 0
              by_cases hcd : hh = 0
              · obtain rfl : EE = 25 := HE.out.trans (if_pos (.inr ⟨rfl, hcd⟩))
                have d10 : decide (hh - 1 < 0) = true := decide_eq_true (by omega)
                clear hcd
                have r0 : U2.cell? ⟨w.heap.size + 1 + 1 + 1, 0, none⟩ = some (.slice none 0 0) := HA2.out.e.r.cell 0
                have q0 : U2.frozen? ⟨w.heap.size + 1 + 1 + 1, 0, none⟩ = false := HA2.out.e.r.frz 0
                have r1 : U2.cell? ⟨w.heap.size + 1 + 1 + 1, 1, none⟩ = some (.int .i64 0) := HA2.out.e.r.cell 1
                have q1 : U2.frozen? ⟨w.heap.size + 1 + 1 + 1, 1, none⟩ = false := HA2.out.e.r.frz 1
                go_wp2_with fail
                clear r0 r1 q0 q1
                have HR : Hid (Bx (U2.setCell ⟨w.heap.size + 1 + 1 + 1, 0, none⟩ (.slice none 0 0)) (w.heap.size + 1 + 1 + 1) #[.slice none 0 0, .int .i64 0] 72 ∧ Below w.heap.size w (U2.setCell ⟨w.heap.size + 1 + 1 + 1, 0, none⟩ (.slice none 0 0))) := Lib.hid ⟨HA2.out.e.r.set 0 _, HA2.out.e.b.setCell (p := ⟨w.heap.size + 1 + 1 + 1, 0, none⟩) (by simp; omega) _⟩
                generalize U2.setCell ⟨w.heap.size + 1 + 1 + 1, 0, none⟩ (.slice none 0 0) = z1 at HR ⊢
                replace HR : Hid (Bx (z1.setCell ⟨w.heap.size + 1 + 1 + 1, 1, none⟩ (.int .i64 0)) (w.heap.size + 1 + 1 + 1) #[.slice none 0 0, .int .i64 0] 72 ∧ Below w.heap.size w (z1.setCell ⟨w.heap.size + 1 + 1 + 1, 1, none⟩ (.int .i64 0))) := Lib.hid ⟨HR.out.1.set 1 _, HR.out.2.setCell (p := ⟨w.heap.size + 1 + 1 + 1, 1, none⟩) (by simp; omega) _⟩
                generalize z1.setCell ⟨w.heap.size + 1 + 1 + 1, 1, none⟩ (.int .i64 0) = z2 at HR ⊢
                have x0 : z2.cell? ⟨w.heap.size + 1 + 1 + 1, 0, none⟩ = some (.slice none 0 0) := HR.out.1.cell 0
                have x1 : z2.cell? ⟨w.heap.size + 1 + 1 + 1, 1, none⟩ = some (.int .i64 0) := HR.out.1.cell 1
                exact bodyPost_ret (v := .tuple #[.agg #[.slice none 0 0, .int .i64 0], .int .i64 25]) (by simp [results, Try.results114, go_sem, x0, x1]) rfl (HErr.out 25 _ (by first | exact rfl | trivial) (by decide) HR.out.2)
              · obtain rfl : EE = 0 := HE.out.trans (if_neg (by omega))
                have HhN : Hid (heldN 37 hh = (hh - 1)) := Lib.hid rfl
                have d10 : decide (hh - 1 < 0) = false := decide_eq_false (by omega)
                clear hcd
                have r0 : U2.cell? ⟨w.heap.size + 1 + 1 + 1, 0, none⟩ = some (.slice none 0 0) := HA2.out.e.r.cell 0
                have q0 : U2.frozen? ⟨w.heap.size + 1 + 1 + 1, 0, none⟩ = false := HA2.out.e.r.frz 0
                have r1 : U2.cell? ⟨w.heap.size + 1 + 1 + 1, 1, none⟩ = some (.int .i64 0) := HA2.out.e.r.cell 1
                have q1 : U2.frozen? ⟨w.heap.size + 1 + 1 + 1, 1, none⟩ = false := HA2.out.e.r.frz 1
                go_wp2_with fail
                clear r0 r1 q0 q1
                have HR : Hid (Bx (U2.setCell ⟨w.heap.size + 1 + 1 + 1, 0, none⟩ (.slice a7 N c7)) (w.heap.size + 1 + 1 + 1) #[.slice a7 N c7, .int .i64 0] 72 ∧ Below w.heap.size w (U2.setCell ⟨w.heap.size + 1 + 1 + 1, 0, none⟩ (.slice a7 N c7)) ∧ Ints (U2.setCell ⟨w.heap.size + 1 + 1 + 1, 0, none⟩ (.slice a7 N c7)) a7 (l.take left ++ pu)) := Lib.hid ⟨HA2.out.e.r.set 0 _, HA2.out.e.b.setCell (p := ⟨w.heap.size + 1 + 1 + 1, 0, none⟩) (by simp; omega) _, HA2.out.i.far (fun p hp e => by have := HA2.out.af p hp; omega) _ _⟩
                generalize U2.setCell ⟨w.heap.size + 1 + 1 + 1, 0, none⟩ (.slice a7 N c7) = z1 at HR ⊢
                replace HR : Hid (Bx (z1.setCell ⟨w.heap.size + 1 + 1 + 1, 1, none⟩ (.int .i64 (hh - 1))) (w.heap.size + 1 + 1 + 1) #[.slice a7 N c7, .int .i64 (hh - 1)] 72 ∧ Below w.heap.size w (z1.setCell ⟨w.heap.size + 1 + 1 + 1, 1, none⟩ (.int .i64 (hh - 1))) ∧ Ints (z1.setCell ⟨w.heap.size + 1 + 1 + 1, 1, none⟩ (.int .i64 (hh - 1))) a7 (l.take left ++ pu)) := Lib.hid ⟨HR.out.1.set 1 _, HR.out.2.1.setCell (p := ⟨w.heap.size + 1 + 1 + 1, 1, none⟩) (by simp; omega) _, HR.out.2.2.far (fun p hp e => by have := HA2.out.af p hp; omega) _ _⟩
                generalize z1.setCell ⟨w.heap.size + 1 + 1 + 1, 1, none⟩ (.int .i64 (hh - 1)) = z2 at HR ⊢
                have x0 : z2.cell? ⟨w.heap.size + 1 + 1 + 1, 0, none⟩ = some (.slice a7 N c7) := HR.out.1.cell 0
                have x1 : z2.cell? ⟨w.heap.size + 1 + 1 + 1, 1, none⟩ = some (.int .i64 (hh - 1)) := HR.out.1.cell 1
                refine bodyPost_ret (v := .tuple #[.agg #[.slice a7 N c7, .int .i64 (hh - 1)], .int .i64 0]) (by simp [results, Try.results114, go_sem, x0, x1]) rfl ?_
                have hS := HS.out; rw [HhN.out] at hS
                exact HOk.out a7 c7 N (hh - 1) z2 (by first | exact rfl | trivial) (by rw [hS]; exact HNl.out) (by rw [hS]) (by rw [hS]; exact HR.out.2.2) HF7.out (fun p hp => by have := HA2.out.af p hp; omega) HR.out.2.1
            have e36 : ((c : Int) == 36) = false := eqB_n h36
            have e37 : ((c : Int) == 37) = false := eqB_n h37
            obtain rfl : EE = 0 := HE.out.trans (if_neg (by omega))
            have HhN : Hid (heldN c hh = hh) := Lib.hid (by unfold heldN; rw [if_neg h36, if_neg h37])
            have g0 : U.cell? ⟨g, 0, none⟩ = some (.slice a7 N c7) := HA.out.x.cell 0
            have g1 : U.cell? ⟨g, 1, none⟩ = some (.int .i64 hh) := HA.out.x.cell 1
            have gf : U.frozen? ⟨g, 1, none⟩ = false := HA.out.x.frz 1
            have o0 : U.cell? ⟨w.heap.size + 1, 0, none⟩ = some (.int .i64 c) := HA.out.e.o.cell 0
            have r0 : U.cell? ⟨w.heap.size + 1 + 1 + 1, 0, none⟩ = some (.slice none 0 0) := HA.out.e.r.cell 0
            have q0 : U.frozen? ⟨w.heap.size + 1 + 1 + 1, 0, none⟩ = false := HA.out.e.r.frz 0
            have r1 : U.cell? ⟨w.heap.size + 1 + 1 + 1, 1, none⟩ = some (.int .i64 0) := HA.out.e.r.cell 1
            have q1 : U.frozen? ⟨w.heap.size + 1 + 1 + 1, 1, none⟩ = false := HA.out.e.r.frz 1
            go_wp2_with fail
            clear r0 r1 q0 q1
            have HR : Hid (Bx (U.setCell ⟨w.heap.size + 1 + 1 + 1, 0, none⟩ (.slice a7 N c7)) (w.heap.size + 1 + 1 + 1) #[.slice a7 N c7, .int .i64 0] 72 ∧ Below w.heap.size w (U.setCell ⟨w.heap.size + 1 + 1 + 1, 0, none⟩ (.slice a7 N c7)) ∧ Ints (U.setCell ⟨w.heap.size + 1 + 1 + 1, 0, none⟩ (.slice a7 N c7)) a7 (l.take left ++ pu)) := Lib.hid ⟨HA.out.e.r.set 0 _, HA.out.e.b.setCell (p := ⟨w.heap.size + 1 + 1 + 1, 0, none⟩) (by simp; omega) _, HA.out.i.far (fun p hp e => by have := HA.out.af p hp; omega) _ _⟩
            generalize U.setCell ⟨w.heap.size + 1 + 1 + 1, 0, none⟩ (.slice a7 N c7) = z1 at HR ⊢
            replace HR : Hid (Bx (z1.setCell ⟨w.heap.size + 1 + 1 + 1, 1, none⟩ (.int .i64 hh)) (w.heap.size + 1 + 1 + 1) #[.slice a7 N c7, .int .i64 hh] 72 ∧ Below w.heap.size w (z1.setCell ⟨w.heap.size + 1 + 1 + 1, 1, none⟩ (.int .i64 hh)) ∧ Ints (z1.setCell ⟨w.heap.size + 1 + 1 + 1, 1, none⟩ (.int .i64 hh)) a7 (l.take left ++ pu)) := Lib.hid ⟨HR.out.1.set 1 _, HR.out.2.1.setCell (p := ⟨w.heap.size + 1 + 1 + 1, 1, none⟩) (by simp; omega) _, HR.out.2.2.far (fun p hp e => by have := HA.out.af p hp; omega) _ _⟩
            generalize z1.setCell ⟨w.heap.size + 1 + 1 + 1, 1, none⟩ (.int .i64 hh) = z2 at HR ⊢
            have x0 : z2.cell? ⟨w.heap.size + 1 + 1 + 1, 0, none⟩ = some (.slice a7 N c7) := HR.out.1.cell 0
            have x1 : z2.cell? ⟨w.heap.size + 1 + 1 + 1, 1, none⟩ = some (.int .i64 hh) := HR.out.1.cell 1
            refine bodyPost_ret (v := .tuple #[.agg #[.slice a7 N c7, .int .i64 hh], .int .i64 0]) (by simp [results, Try.results114, go_sem, x0, x1]) rfl ?_
            have hS := HS.out; rw [HhN.out] at hS
            exact HOk.out a7 c7 N hh z2 (by first | exact rfl | trivial) (by rw [hS]; exact HNl.out) (by rw [hS]) (by rw [hS]; exact HR.out.2.2) HF7.out (fun p hp => by have := HA.out.af p hp; omega) HR.out.2.1
        · go_simp
          have HP : Hid (Bx (wr.drew.alloc (.cells #[.slice none 0 0, .int .i64 0] 72)) (wr.heap.size) #[.slice none 0 0, .int .i64 0] 72) := Lib.hid (Bx.newg wr.drew #[.slice none 0 0, .int .i64 0] 72 (wr.heap.size) rfl)
          have HG : Hid (wr.heap.size ≤ wr.heap.size) := Lib.hid (by have := HBu.out.size; (try simp only [World.size_alloc, World.size_drew] at this); omega)
          replace HBu : Hid (Below wr.heap.size wr (wr.drew.alloc (.cells #[.slice none 0 0, .int .i64 0] 72))) := Lib.hid (HBu.out.alloc HBu.out.size _)
          refine hKK.out _ _ ⟨HBu.out, HX.out _ HBu.out⟩ (fun hHeld => ?_)
          clear hKK KK
          try simp only [Act.put, List.setIfInBounds_toArray, List.set_cons_zero, List.set_cons_succ]
          refine AnyE.ready (rs := [0]) (by kernel_rfl) (by simp) ?_
          refine (AllE.cons (o := { dst := some 100, op := Go.Op.buildSlice 48 0 #[], type := 48, pos := "ref.go:154", after := #[], guard := none }) rfl (fun KK hKK => ?_) AllE.nil)
          go_simp
          have HO : Hid (OwX wr ((wr.drew.alloc (.cells #[.slice none 0 0, .int .i64 0] 72)).alloc (.cells #[] 3)) (wr.heap.size + 1) 0 (.slice (some ⟨wr.heap.size + 1, 0, none⟩) 0 0) []) := Lib.hid (OwX.newg (wr.heap.size + 1) (by simp only [World.size_alloc, World.size_drew]) HBu.out)
          replace HP : Hid (PendB ((wr.drew.alloc (.cells #[.slice none 0 0, .int .i64 0] 72)).alloc (.cells #[] 3)) (.slice (some ⟨wr.heap.size + 1, 0, none⟩) 0 0) (wr.heap.size) #[.slice none 0 0, .int .i64 0]) := Lib.hid (PendB.owng (wr.heap.size + 1) (by simp only [World.size_alloc, World.size_drew]) HP.out)
          replace HBu : Hid (Below wr.heap.size wr ((wr.drew.alloc (.cells #[.slice none 0 0, .int .i64 0] 72)).alloc (.cells #[] 3))) := Lib.hid (HBu.out.alloc HBu.out.size _)
          refine hKK.out _ _ ⟨HBu.out, HX.out _ HBu.out⟩ (fun hHeld => ?_)
          clear hKK KK
          try simp only [Act.put, List.setIfInBounds_toArray, List.set_cons_zero, List.set_cons_succ]
          refine AnyE.ready (rs := [5]) (by kernel_rfl) (by simp) ?_
          refine (AllE.cons (o := { dst := some 105, op := Go.Op.call { callee := Go.Callee.builtin Go.Builtin.append, args := #[Go.Operand.tmp 100, Go.Operand.tmp 104], argTypes := #[48, 48] }, type := 48, pos := "ref.go:154", after := #[{ on := 0, ground := Go.Ground.data }, { on := 4, ground := Go.Ground.data }], guard := none }) rfl (fun KK hKK => ?_) AllE.nil)
          obtain ⟨v1, u1, hr1, ho1, hb1, hp1⟩ := HO.out.app2 (HId.out _ HBu.out) (HLt.out) (by omega) sc
          refine step_append_run rfl _ _ _ rfl _ _ _ _ rfl (by rfl) hr1 ?_
          clear hr1
          replace HBu : Hid (Below wr.heap.size wr u1) := Lib.hid (HBu.out.trans (hb1.mono HO.out.b0))
          replace HP := Lib.hid (hp1 _ _ HP.out)
          replace HO := Lib.hid ho1
          clear ho1 hb1 hp1
          refine hKK.out _ _ ⟨HBu.out, HX.out _ HBu.out⟩ (fun hHeld => ?_)
          clear hKK KK
          try simp only [Act.put, List.setIfInBounds_toArray, List.set_cons_zero, List.set_cons_succ]
          refine AnyE.ready (rs := [7]) (by kernel_rfl) (by simp) ?_
          refine (AllE.cons (o := { dst := some 107, op := Go.Op.call { callee := Go.Callee.builtin Go.Builtin.append, args := #[Go.Operand.tmp 105, Go.Operand.tmp 106], argTypes := #[48, 48] }, type := 48, pos := "ref.go:154", after := #[{ on := 5, ground := Go.Ground.data }, { on := 6, ground := Go.Ground.data }, { on := 5, ground := Go.Ground.chain }], guard := none }) rfl (fun KK hKK => ?_) AllE.nil)
          obtain ⟨v2, u2, hr1, ho1, hb1, hp1⟩ := HO.out.app2 (HPi.out _ HBu.out) (rfl) (by have := HPu.out; omega) pc5
          obtain ⟨a7, c7, rfl⟩ := own_slice ho1.o
          refine step_append_run rfl _ _ _ rfl _ _ _ _ rfl (by rfl) hr1 ?_
          clear hr1
          replace HBu : Hid (Below wr.heap.size wr u2) := Lib.hid (HBu.out.trans (hb1.mono HO.out.b0))
          replace HP := Lib.hid (hp1 _ _ HP.out)
          replace HO := Lib.hid ho1
          clear ho1 hb1 hp1
          refine hKK.out _ _ ⟨HBu.out, HX.out _ HBu.out⟩ (fun hHeld => ?_)
          clear hKK KK
          try simp only [Act.put, List.setIfInBounds_toArray, List.set_cons_zero, List.set_cons_succ]
          refine AnyE.take2 (i := 10) [] (oi := { dst := some 110, op := Go.Op.build 72 #[(0, Go.Operand.tmp 107), (1, Go.Operand.tmp 109)], type := 72, pos := "ref.go:154", after := #[{ on := 7, ground := Go.Ground.data }, { on := 9, ground := Go.Ground.data }], guard := none }) (v := ?_) rfl (by kernel_rfl) (by kernel_rfl) (by kernel_rfl) (by kernel_rfl) (fun _ _ _ h => h) (Or.inl ⟨by rfl, ?_⟩) (by assumption) ?_
          rotate_left
          · (intro w0 hSw; (try dsimp only at hSw); go_split_ands; go_simp; with_reducible rfl)
          try simp only [Act.put, List.setIfInBounds_toArray, List.set_cons_zero, List.set_cons_succ]
          have hg1 := pendB_lt HP.out
          refine AnyE.ready (rs := [12]) (by kernel_rfl) (by simp) ?_
          refine AllE.last (o := { dst := none, op := Go.Op.store 72 (Go.Operand.tmp 16) (Go.Operand.tmp 110), type := 0, pos := "ref.go:154", after := #[{ on := 11, ground := Go.Ground.data }, { on := 10, ground := Go.Ground.data }, { on := 7, ground := Go.Ground.chain }, { on := 0, ground := Go.Ground.phase }, { on := 1, ground := Go.Ground.phase }, { on := 2, ground := Go.Ground.phase }, { on := 3, ground := Go.Ground.phase }, { on := 4, ground := Go.Ground.phase }, { on := 5, ground := Go.Ground.phase }, { on := 6, ground := Go.Ground.phase }, { on := 7, ground := Go.Ground.phase }, { on := 8, ground := Go.Ground.phase }, { on := 9, ground := Go.Ground.phase }, { on := 10, ground := Go.Ground.phase }, { on := 11, ground := Go.Ground.phase }], guard := none }) rfl (by kernel_rfl) (fun KK hKK => ?_)
          obtain ⟨g, hge⟩ : ∃ q, q = wr.heap.size := ⟨_, rfl⟩
          replace HG : Hid (wr.heap.size ≤ g) := Lib.hid (by rw [hge]; exact HG.out)
          rw [← hge] at HP ⊢
          clear hge hg1
          have z0 : (u2).cell? ⟨g, 0, none⟩ = some (.slice none 0 0) := HP.out.1.cell 0
          have z1 : (u2).cell? ⟨g, 1, none⟩ = some (.int .i64 0) := HP.out.1.cell 1
          have y0 : (u2).frozen? ⟨g, 0, none⟩ = false := HP.out.1.frz 0
          have y1 : (u2).frozen? ⟨g, 1, none⟩ = false := HP.out.1.frz 1
          go_simp
          refine hKK.out _ _ ?_
          clear hKK KK
          try simp only [Act.put, List.setIfInBounds_toArray, List.set_cons_zero, List.set_cons_succ]
          clear z0 z1 y0 y1 hHeld
          obtain ⟨N, hNe⟩ : ∃ q, q = left + pu.length := ⟨_, rfl⟩
          rw [Nat.zero_add] at HO HP
          rw [← hNe] at HO HP ⊢
          obtain ⟨U, hU⟩ : ∃ q, q = ((u2).setCell ⟨g, 0, none⟩ (.slice a7 N c7)).setCell ⟨g, 1, none⟩ (.int .i64 hh) := ⟨_, rfl⟩
          rw [← hU]
          have HNl : Hid ((l.take left ++ pu).length = N) := Lib.hid (by rw [List.length_append, HLt.out, hNe])
          have HA : Hid (AfT P A c a b sz sa n sc hh w U g a7 N c7 hh (l.take left ++ pu)) := Lib.hid (by rw [hU]; exact AfT.mk' (HB.out.below HBu.out) HP.out HO.out HB.out.r.lt HG.out HNl.out)
          have HF7 : Hid (N ≤ c7) := Lib.hid (own_fit HO.out.o)
          clear hU hNe HP HO HG HBu
          by_cases h36 : c = 36
          · subst h36
            have g0 : U.cell? ⟨g, 0, none⟩ = some (.slice a7 N c7) := HA.out.x.cell 0
            have g1 : U.cell? ⟨g, 1, none⟩ = some (.int .i64 hh) := HA.out.x.cell 1
            have gf : U.frozen? ⟨g, 1, none⟩ = false := HA.out.x.frz 1
            have o0 : U.cell? ⟨w.heap.size + 1, 0, none⟩ = some (.int .i64 36) := HA.out.e.o.cell 0
            go_upto_region 22 with fail
            obtain ⟨U2, hU2⟩ : ∃ q, q = U.setCell ⟨g, 1, none⟩ (.int .i64 (hh + 1)) := ⟨_, rfl⟩
            have HA2 : Hid (AfT P A 36 a b sz sa n sc hh w U2 g a7 N c7 (hh + 1) (l.take left ++ pu)) := Lib.hid (by rw [hU2]; exact HA.out.held (hh + 1))
            rw [← hU2]
            clear hU2 g0 g1 gf o0
            have g0 : U2.cell? ⟨g, 0, none⟩ = some (.slice a7 N c7) := HA2.out.x.cell 0
            have g1 : U2.cell? ⟨g, 1, none⟩ = some (.int .i64 (hh + 1)) := HA2.out.x.cell 1
            have o0 : U2.cell? ⟨w.heap.size + 1, 0, none⟩ = some (.int .i64 36) := HA2.out.e.o.cell 0
            by_cases hcd : 10 ≤ hh
            · obtain rfl : EE = 25 := HE.out.trans (if_pos (.inl ⟨rfl, hcd⟩))
              have d10 : decide ((10 : Int) < hh + 1) = true := decide_eq_true (by omega)
              clear hcd
              have r0 : U2.cell? ⟨w.heap.size + 1 + 1 + 1, 0, none⟩ = some (.slice none 0 0) := HA2.out.e.r.cell 0
              have q0 : U2.frozen? ⟨w.heap.size + 1 + 1 + 1, 0, none⟩ = false := HA2.out.e.r.frz 0
              have r1 : U2.cell? ⟨w.heap.size + 1 + 1 + 1, 1, none⟩ = some (.int .i64 0) := HA2.out.e.r.cell 1
              have q1 : U2.frozen? ⟨w.heap.size + 1 + 1 + 1, 1, none⟩ = false := HA2.out.e.r.frz 1
              go_wp2_with fail
              clear r0 r1 q0 q1
              have HR : Hid (Bx (U2.setCell ⟨w.heap.size + 1 + 1 + 1, 0, none⟩ (.slice none 0 0)) (w.heap.size + 1 + 1 + 1) #[.slice none 0 0, .int .i64 0] 72 ∧ Below w.heap.size w (U2.setCell ⟨w.heap.size + 1 + 1 + 1, 0, none⟩ (.slice none 0 0))) := Lib.hid ⟨HA2.out.e.r.set 0 _, HA2.out.e.b.setCell (p := ⟨w.heap.size + 1 + 1 + 1, 0, none⟩) (by simp; omega) _⟩
              generalize U2.setCell ⟨w.heap.size + 1 + 1 + 1, 0, none⟩ (.slice none 0 0) = z1 at HR ⊢
              replace HR : Hid (Bx (z1.setCell ⟨w.heap.size + 1 + 1 + 1, 1, none⟩ (.int .i64 0)) (w.heap.size + 1 + 1 + 1) #[.slice none 0 0, .int .i64 0] 72 ∧ Below w.heap.size w (z1.setCell ⟨w.heap.size + 1 + 1 + 1, 1, none⟩ (.int .i64 0))) := Lib.hid ⟨HR.out.1.set 1 _, HR.out.2.setCell (p := ⟨w.heap.size + 1 + 1 + 1, 1, none⟩) (by simp; omega) _⟩
              generalize z1.setCell ⟨w.heap.size + 1 + 1 + 1, 1, none⟩ (.int .i64 0) = z2 at HR ⊢
              have x0 : z2.cell? ⟨w.heap.size + 1 + 1 + 1, 0, none⟩ = some (.slice none 0 0) := HR.out.1.cell 0
              have x1 : z2.cell? ⟨w.heap.size + 1 + 1 + 1, 1, none⟩ = some (.int .i64 0) := HR.out.1.cell 1
              exact bodyPost_ret (v := .tuple #[.agg #[.slice none 0 0, .int .i64 0], .int .i64 25]) (by simp [results, Try.results114, go_sem, x0, x1]) rfl (HErr.out 25 _ (by first | exact rfl | trivial) (by decide) HR.out.2)
            · obtain rfl : EE = 0 := HE.out.trans (if_neg (by omega))
              have HhN : Hid (heldN 36 hh = (hh + 1)) := Lib.hid rfl
              have d10 : decide ((10 : Int) < hh + 1) = false := decide_eq_false (by omega)
              clear hcd
              have r0 : U2.cell? ⟨w.heap.size + 1 + 1 + 1, 0, none⟩ = some (.slice none 0 0) := HA2.out.e.r.cell 0
              have q0 : U2.frozen? ⟨w.heap.size + 1 + 1 + 1, 0, none⟩ = false := HA2.out.e.r.frz 0
              have r1 : U2.cell? ⟨w.heap.size + 1 + 1 + 1, 1, none⟩ = some (.int .i64 0) := HA2.out.e.r.cell 1
              have q1 : U2.frozen? ⟨w.heap.size + 1 + 1 + 1, 1, none⟩ = false := HA2.out.e.r.frz 1
              go_wp2_with fail
              clear r0 r1 q0 q1
              have HR : Hid (Bx (U2.setCell ⟨w.heap.size + 1 + 1 + 1, 0, none⟩ (.slice a7 N c7)) (w.heap.size + 1 + 1 + 1) #[.slice a7 N c7, .int .i64 0] 72 ∧ Below w.heap.size w (U2.setCell ⟨w.heap.size + 1 + 1 + 1, 0, none⟩ (.slice a7 N c7)) ∧ Ints (U2.setCell ⟨w.heap.size + 1 + 1 + 1, 0, none⟩ (.slice a7 N c7)) a7 (l.take left ++ pu)) := Lib.hid ⟨HA2.out.e.r.set 0 _, HA2.out.e.b.setCell (p := ⟨w.heap.size + 1 + 1 + 1, 0, none⟩) (by simp; omega) _, HA2.out.i.far (fun p hp e => by have := HA2.out.af p hp; omega) _ _⟩
              generalize U2.setCell ⟨w.heap.size + 1 + 1 + 1, 0, none⟩ (.slice a7 N c7) = z1 at HR ⊢
              replace HR : Hid (Bx (z1.setCell ⟨w.heap.size + 1 + 1 + 1, 1, none⟩ (.int .i64 (hh + 1))) (w.heap.size + 1 + 1 + 1) #[.slice a7 N c7, .int .i64 (hh + 1)] 72 ∧ Below w.heap.size w (z1.setCell ⟨w.heap.size + 1 + 1 + 1, 1, none⟩ (.int .i64 (hh + 1))) ∧ Ints (z1.setCell ⟨w.heap.size + 1 + 1 + 1, 1, none⟩ (.int .i64 (hh + 1))) a7 (l.take left ++ pu)) := Lib.hid ⟨HR.out.1.set 1 _, HR.out.2.1.setCell (p := ⟨w.heap.size + 1 + 1 + 1, 1, none⟩) (by simp; omega) _, HR.out.2.2.far (fun p hp e => by have := HA2.out.af p hp; omega) _ _⟩
              generalize z1.setCell ⟨w.heap.size + 1 + 1 + 1, 1, none⟩ (.int .i64 (hh + 1)) = z2 at HR ⊢
              have x0 : z2.cell? ⟨w.heap.size + 1 + 1 + 1, 0, none⟩ = some (.slice a7 N c7) := HR.out.1.cell 0
              have x1 : z2.cell? ⟨w.heap.size + 1 + 1 + 1, 1, none⟩ = some (.int .i64 (hh + 1)) := HR.out.1.cell 1
              refine bodyPost_ret (v := .tuple #[.agg #[.slice a7 N c7, .int .i64 (hh + 1)], .int .i64 0]) (by simp [results, Try.results114, go_sem, x0, x1]) rfl ?_
              have hS := HS.out; rw [HhN.out] at hS
              exact HOk.out a7 c7 N (hh + 1) z2 (by first | exact rfl | trivial) (by rw [hS]; exact HNl.out) (by rw [hS]) (by rw [hS]; exact HR.out.2.2) HF7.out (fun p hp => by have := HA2.out.af p hp; omega) HR.out.2.1
          by_cases h37 : c = 37
          · subst h37
            have g0 : U.cell? ⟨g, 0, none⟩ = some (.slice a7 N c7) := HA.out.x.cell 0
            have g1 : U.cell? ⟨g, 1, none⟩ = some (.int .i64 hh) := HA.out.x.cell 1
            have gf : U.frozen? ⟨g, 1, none⟩ = false := HA.out.x.frz 1
            have o0 : U.cell? ⟨w.heap.size + 1, 0, none⟩ = some (.int .i64 37) := HA.out.e.o.cell 0
            go_upto_region 22 with fail
            obtain ⟨U2, hU2⟩ : ∃ q, q = U.setCell ⟨g, 1, none⟩ (.int .i64 (hh - 1)) := ⟨_, rfl⟩
            have HA2 : Hid (AfT P A 37 a b sz sa n sc hh w U2 g a7 N c7 (hh - 1) (l.take left ++ pu)) := Lib.hid (by rw [hU2]; exact HA.out.held (hh - 1))
            rw [← hU2]
            clear hU2 g0 g1 gf o0
            have g0 : U2.cell? ⟨g, 0, none⟩ = some (.slice a7 N c7) := HA2.out.x.cell 0
            have g1 : U2.cell? ⟨g, 1, none⟩ = some (.int .i64 (hh - 1)) := HA2.out.x.cell 1
            have o0 : U2.cell? ⟨w.heap.size + 1, 0, none⟩ = some (.int .i64 37) := HA2.out.e.o.cell 0
            by_cases hcd : hh = 0
            · obtain rfl : EE = 25 := HE.out.trans (if_pos (.inr ⟨rfl, hcd⟩))
              have d10 : decide (hh - 1 < 0) = true := decide_eq_true (by omega)
              clear hcd
              have r0 : U2.cell? ⟨w.heap.size + 1 + 1 + 1, 0, none⟩ = some (.slice none 0 0) := HA2.out.e.r.cell 0
              have q0 : U2.frozen? ⟨w.heap.size + 1 + 1 + 1, 0, none⟩ = false := HA2.out.e.r.frz 0
              have r1 : U2.cell? ⟨w.heap.size + 1 + 1 + 1, 1, none⟩ = some (.int .i64 0) := HA2.out.e.r.cell 1
              have q1 : U2.frozen? ⟨w.heap.size + 1 + 1 + 1, 1, none⟩ = false := HA2.out.e.r.frz 1
              go_wp2_with fail
              clear r0 r1 q0 q1
              have HR : Hid (Bx (U2.setCell ⟨w.heap.size + 1 + 1 + 1, 0, none⟩ (.slice none 0 0)) (w.heap.size + 1 + 1 + 1) #[.slice none 0 0, .int .i64 0] 72 ∧ Below w.heap.size w (U2.setCell ⟨w.heap.size + 1 + 1 + 1, 0, none⟩ (.slice none 0 0))) := Lib.hid ⟨HA2.out.e.r.set 0 _, HA2.out.e.b.setCell (p := ⟨w.heap.size + 1 + 1 + 1, 0, none⟩) (by simp; omega) _⟩
              generalize U2.setCell ⟨w.heap.size + 1 + 1 + 1, 0, none⟩ (.slice none 0 0) = z1 at HR ⊢
              replace HR : Hid (Bx (z1.setCell ⟨w.heap.size + 1 + 1 + 1, 1, none⟩ (.int .i64 0)) (w.heap.size + 1 + 1 + 1) #[.slice none 0 0, .int .i64 0] 72 ∧ Below w.heap.size w (z1.setCell ⟨w.heap.size + 1 + 1 + 1, 1, none⟩ (.int .i64 0))) := Lib.hid ⟨HR.out.1.set 1 _, HR.out.2.setCell (p := ⟨w.heap.size + 1 + 1 + 1, 1, none⟩) (by simp; omega) _⟩
              generalize z1.setCell ⟨w.heap.size + 1 + 1 + 1, 1, none⟩ (.int .i64 0) = z2 at HR ⊢
              have x0 : z2.cell? ⟨w.heap.size + 1 + 1 + 1, 0, none⟩ = some (.slice none 0 0) := HR.out.1.cell 0
              have x1 : z2.cell? ⟨w.heap.size + 1 + 1 + 1, 1, none⟩ = some (.int .i64 0) := HR.out.1.cell 1
              exact bodyPost_ret (v := .tuple #[.agg #[.slice none 0 0, .int .i64 0], .int .i64 25]) (by simp [results, Try.results114, go_sem, x0, x1]) rfl (HErr.out 25 _ (by first | exact rfl | trivial) (by decide) HR.out.2)
            · obtain rfl : EE = 0 := HE.out.trans (if_neg (by omega))
              have HhN : Hid (heldN 37 hh = (hh - 1)) := Lib.hid rfl
              have d10 : decide (hh - 1 < 0) = false := decide_eq_false (by omega)
              clear hcd
              have r0 : U2.cell? ⟨w.heap.size + 1 + 1 + 1, 0, none⟩ = some (.slice none 0 0) := HA2.out.e.r.cell 0
              have q0 : U2.frozen? ⟨w.heap.size + 1 + 1 + 1, 0, none⟩ = false := HA2.out.e.r.frz 0
              have r1 : U2.cell? ⟨w.heap.size + 1 + 1 + 1, 1, none⟩ = some (.int .i64 0) := HA2.out.e.r.cell 1
              have q1 : U2.frozen? ⟨w.heap.size + 1 + 1 + 1, 1, none⟩ = false := HA2.out.e.r.frz 1
              go_wp2_with fail
              clear r0 r1 q0 q1
              have HR : Hid (Bx (U2.setCell ⟨w.heap.size + 1 + 1 + 1, 0, none⟩ (.slice a7 N c7)) (w.heap.size + 1 + 1 + 1) #[.slice a7 N c7, .int .i64 0] 72 ∧ Below w.heap.size w (U2.setCell ⟨w.heap.size + 1 + 1 + 1, 0, none⟩ (.slice a7 N c7)) ∧ Ints (U2.setCell ⟨w.heap.size + 1 + 1 + 1, 0, none⟩ (.slice a7 N c7)) a7 (l.take left ++ pu)) := Lib.hid ⟨HA2.out.e.r.set 0 _, HA2.out.e.b.setCell (p := ⟨w.heap.size + 1 + 1 + 1, 0, none⟩) (by simp; omega) _, HA2.out.i.far (fun p hp e => by have := HA2.out.af p hp; omega) _ _⟩
              generalize U2.setCell ⟨w.heap.size + 1 + 1 + 1, 0, none⟩ (.slice a7 N c7) = z1 at HR ⊢
              replace HR : Hid (Bx (z1.setCell ⟨w.heap.size + 1 + 1 + 1, 1, none⟩ (.int .i64 (hh - 1))) (w.heap.size + 1 + 1 + 1) #[.slice a7 N c7, .int .i64 (hh - 1)] 72 ∧ Below w.heap.size w (z1.setCell ⟨w.heap.size + 1 + 1 + 1, 1, none⟩ (.int .i64 (hh - 1))) ∧ Ints (z1.setCell ⟨w.heap.size + 1 + 1 + 1, 1, none⟩ (.int .i64 (hh - 1))) a7 (l.take left ++ pu)) := Lib.hid ⟨HR.out.1.set 1 _, HR.out.2.1.setCell (p := ⟨w.heap.size + 1 + 1 + 1, 1, none⟩) (by simp; omega) _, HR.out.2.2.far (fun p hp e => by have := HA2.out.af p hp; omega) _ _⟩
              generalize z1.setCell ⟨w.heap.size + 1 + 1 + 1, 1, none⟩ (.int .i64 (hh - 1)) = z2 at HR ⊢
              have x0 : z2.cell? ⟨w.heap.size + 1 + 1 + 1, 0, none⟩ = some (.slice a7 N c7) := HR.out.1.cell 0
              have x1 : z2.cell? ⟨w.heap.size + 1 + 1 + 1, 1, none⟩ = some (.int .i64 (hh - 1)) := HR.out.1.cell 1
              refine bodyPost_ret (v := .tuple #[.agg #[.slice a7 N c7, .int .i64 (hh - 1)], .int .i64 0]) (by simp [results, Try.results114, go_sem, x0, x1]) rfl ?_
              have hS := HS.out; rw [HhN.out] at hS
              exact HOk.out a7 c7 N (hh - 1) z2 (by first | exact rfl | trivial) (by rw [hS]; exact HNl.out) (by rw [hS]) (by rw [hS]; exact HR.out.2.2) HF7.out (fun p hp => by have := HA2.out.af p hp; omega) HR.out.2.1
          have e36 : ((c : Int) == 36) = false := eqB_n h36
          have e37 : ((c : Int) == 37) = false := eqB_n h37
          obtain rfl : EE = 0 := HE.out.trans (if_neg (by omega))
          have HhN : Hid (heldN c hh = hh) := Lib.hid (by unfold heldN; rw [if_neg h36, if_neg h37])
          have g0 : U.cell? ⟨g, 0, none⟩ = some (.slice a7 N c7) := HA.out.x.cell 0
          have g1 : U.cell? ⟨g, 1, none⟩ = some (.int .i64 hh) := HA.out.x.cell 1
          have gf : U.frozen? ⟨g, 1, none⟩ = false := HA.out.x.frz 1
          have o0 : U.cell? ⟨w.heap.size + 1, 0, none⟩ = some (.int .i64 c) := HA.out.e.o.cell 0
          have r0 : U.cell? ⟨w.heap.size + 1 + 1 + 1, 0, none⟩ = some (.slice none 0 0) := HA.out.e.r.cell 0
          have q0 : U.frozen? ⟨w.heap.size + 1 + 1 + 1, 0, none⟩ = false := HA.out.e.r.frz 0
          have r1 : U.cell? ⟨w.heap.size + 1 + 1 + 1, 1, none⟩ = some (.int .i64 0) := HA.out.e.r.cell 1
          have q1 : U.frozen? ⟨w.heap.size + 1 + 1 + 1, 1, none⟩ = false := HA.out.e.r.frz 1
          go_wp2_with fail
          clear r0 r1 q0 q1
          have HR : Hid (Bx (U.setCell ⟨w.heap.size + 1 + 1 + 1, 0, none⟩ (.slice a7 N c7)) (w.heap.size + 1 + 1 + 1) #[.slice a7 N c7, .int .i64 0] 72 ∧ Below w.heap.size w (U.setCell ⟨w.heap.size + 1 + 1 + 1, 0, none⟩ (.slice a7 N c7)) ∧ Ints (U.setCell ⟨w.heap.size + 1 + 1 + 1, 0, none⟩ (.slice a7 N c7)) a7 (l.take left ++ pu)) := Lib.hid ⟨HA.out.e.r.set 0 _, HA.out.e.b.setCell (p := ⟨w.heap.size + 1 + 1 + 1, 0, none⟩) (by simp; omega) _, HA.out.i.far (fun p hp e => by have := HA.out.af p hp; omega) _ _⟩
          generalize U.setCell ⟨w.heap.size + 1 + 1 + 1, 0, none⟩ (.slice a7 N c7) = z1 at HR ⊢
          replace HR : Hid (Bx (z1.setCell ⟨w.heap.size + 1 + 1 + 1, 1, none⟩ (.int .i64 hh)) (w.heap.size + 1 + 1 + 1) #[.slice a7 N c7, .int .i64 hh] 72 ∧ Below w.heap.size w (z1.setCell ⟨w.heap.size + 1 + 1 + 1, 1, none⟩ (.int .i64 hh)) ∧ Ints (z1.setCell ⟨w.heap.size + 1 + 1 + 1, 1, none⟩ (.int .i64 hh)) a7 (l.take left ++ pu)) := Lib.hid ⟨HR.out.1.set 1 _, HR.out.2.1.setCell (p := ⟨w.heap.size + 1 + 1 + 1, 1, none⟩) (by simp; omega) _, HR.out.2.2.far (fun p hp e => by have := HA.out.af p hp; omega) _ _⟩
          generalize z1.setCell ⟨w.heap.size + 1 + 1 + 1, 1, none⟩ (.int .i64 hh) = z2 at HR ⊢
          have x0 : z2.cell? ⟨w.heap.size + 1 + 1 + 1, 0, none⟩ = some (.slice a7 N c7) := HR.out.1.cell 0
          have x1 : z2.cell? ⟨w.heap.size + 1 + 1 + 1, 1, none⟩ = some (.int .i64 hh) := HR.out.1.cell 1
          refine bodyPost_ret (v := .tuple #[.agg #[.slice a7 N c7, .int .i64 hh], .int .i64 0]) (by simp [results, Try.results114, go_sem, x0, x1]) rfl ?_
          have hS := HS.out; rw [HhN.out] at hS
          exact HOk.out a7 c7 N hh z2 (by first | exact rfl | trivial) (by rw [hS]; exact HNl.out) (by rw [hS]) (by rw [hS]; exact HR.out.2.2) HF7.out (fun p hp => by have := HA.out.af p hp; omega) HR.out.2.1
end Go.Proofs.Ytpiafgmncfibmaa.Vf
