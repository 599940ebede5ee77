import Derived.Laws.BitsLemmas
import Derived.IntWalk
import Derived.Laws.BitsAllLaws
import Derived.Deep.DrawnRows
import Derived.Test.YtpiafgmncfibmaaXd
import Derived.Test.YtpiafgmncfibmaaXc
import Derived.Test.YtpiafgmncfibmaaVh
import Derived.Test.YtpiafgmncfibmaaRows
import Derived.WalkKit
import Derived.ProofKit
import Derived.OpenShut
import Derived.Deep.QuietTactic
import Derived.BigQuiet
import Derived.Outline
import Derived.WalkSmall
import Derived.WalkLawsBesides
import Derived.WalkSpells
import Derived.BigGuardPart
import Derived.RegionTactic
import Derived.Deep.RegionHeld3
import Derived.Lib.Hide
import Derived.Deep.MidRow
import Derived.Below
import Derived.Deep.RegionWith
import Derived.Deep.OwnRows
import Derived.Deep.AppendLies
import Derived.Deep.RegionLaw
import Derived.Deep.CutBlock
import Derived.Deep.DeepCutAuto
namespace Go.Proofs.Ytpiafgmncfibmaa.Vf
open Go.ChangeShapes Go.WideShapes Go.ChangeAt Go.RowKit
set_option linter.unusedVariables false

/-- A row of ints being laid. -/
structure OwX (w V : World) (B n : Nat) (v : Value) (xs : List Int) : Prop where
  o : V.ownsRow B 3 1 v n (xs.map (.int .i64))
  b0 : w.heap.size ≤ B
  b1 : B ≤ V.heap.size
/-- A row that waits to be put behind it. -/
def Pend (V : World) (v : Value) (a : Option Addr) (l : List Int) : Prop := Ints V a l ∧ ∀ p, a = some p → some p.block ≠ v.ownBlock
theorem OwX.new {w V : World} (hb : Below w.heap.size w V) : OwX w (V.alloc (.cells #[] 3)) V.heap.size 0 (.slice (some ⟨V.heap.size, 0, none⟩) 0 0) [] :=
  ⟨⟨rfl, .inr ⟨V.heap.size, 0, #[], rfl, Nat.le_refl _, heap_alloc_new _ _, Nat.le_refl _, Nat.zero_le _, rfl, rfl⟩⟩, hb.size, by rw [World.size_alloc]; exact Nat.le_succ _⟩
theorem OwX.alloc {w V : World} {B n : Nat} {v : Value} {xs : List Int} (h : OwX w V B n v xs) (o : Obj) : OwX w (V.alloc o) B n v xs := ⟨own_alloc2 h.o o, h.b0, by rw [World.size_alloc]; exact Nat.le_trans h.b1 (Nat.le_succ _)⟩
theorem OwX.below {w V V' : World} {B n : Nat} {v : Value} {xs : List Int} (h : OwX w V B n v xs) (hb : Below V.heap.size V V') : OwX w V' B n v xs := ⟨own_below2 h.o hb, h.b0, Nat.le_trans h.b1 hb.size⟩
theorem Ints.alloc' {w : World} {a : Option Addr} {l : List Int} (h : Ints w a l) (o : Obj) : Ints (w.alloc o) a l := h.kept (Kept.of ((Below.refl w.heap.size w).alloc (Nat.le_refl _) o))
theorem Ints.grown {w w' : World} {a : Option Addr} {l : List Int} {R : Option Nat} (h : Ints w a l) (hg : w.grownBy w' R) (hne : ∀ p, a = some p → some p.block ≠ R) : Ints w' a l := by
  rcases h with h | ⟨b, o, rfl, hb, hc⟩
  · exact .inl h
  · exact .inr ⟨b, o, rfl, Nat.lt_of_lt_of_le hb hg.size, fun i hi => (World.cell?_of_block (hg.block b hb (hne _ rfl))).trans (hc i hi)⟩
theorem Ints.blk {w : World} {a : Option Addr} {l : List Int} (h : Ints w a l) (h0 : 0 < l.length) : ∀ p, a = some p → p.block < w.heap.size := fun p hp => by
  obtain ⟨b, o, ha, hb, _⟩ := h.at h0
  rw [ha] at hp
  injection hp with hp
  subst hp
  exact hb
theorem OwX.app {w V : World} {B n : Nat} {v : Value} {xs : List Int} (h : OwX w V B n v xs) {a : Option Addr} {l : List Int} {N : Nat} (hI : Ints V a l) (hN : l.length = N) (hn : n + N ≤ 100000) (c : Nat) :
    ∃ v' V', (Builtin.append_ #[48, 48] 48 #[v, .slice a N c]).run Try.prog V = .ok v' V' ∧ OwX w V' B (n + N) v' (xs ++ l) ∧ Below B V V' ∧ ∀ a2 l2, Pend V v a2 l2 → 0 < l2.length → Pend V' v' a2 l2 := by
  subst hN
  obtain ⟨v', V', h1, h2, h3, h4⟩ := app_ints V B n v xs l a c h.o hI hn h.b1
  have hb := own_below h.o h.b1 h3
  refine ⟨v', V', h1, ⟨h2, h.b0, Nat.le_trans h.b1 hb.size⟩, hb, fun a2 l2 hp h0 => ⟨hp.1.grown h3 hp.2, fun p hpa => ?_⟩⟩
  rcases h4 with h4 | h4
  · rw [h4]; exact hp.2 p hpa
  · rw [h4]
    intro e
    injection e with e
    have := hp.1.blk h0 p hpa
    omega
theorem Pend.new {w V : World} {B n : Nat} {v : Value} {xs : List Int} (h : OwX w V B n v xs) (l : List Int) : Pend (V.alloc (.cells (l.map (.int .i64)).toArray 3)) v (some ⟨V.heap.size, 0, none⟩) l := by
  obtain ⟨a, c, e, hi, _⟩ := NewInts.of l V
  injection e with e
  injection e with e _ _
  subst e
  exact ⟨hi, fun p hp => by injection hp with hp; subst hp; exact own_blk h.o (Nat.le_refl _)⟩
theorem Pend.alloc {V : World} {v : Value} {a : Option Addr} {l : List Int} (h : Pend V v a l) (o : Obj) : Pend (V.alloc o) v a l := ⟨h.1.alloc' o, h.2⟩
theorem Pend.own {V : World} {a : Option Addr} {l : List Int} (h : Ints V a l) (h0 : 0 < l.length) : Pend (V.alloc (.cells #[] 3)) (.slice (some ⟨V.heap.size, 0, none⟩) 0 0) a l := ⟨h.alloc' _, fun p hp e => by
  have h1 := h.blk h0 p hp
  have h2 : some p.block = some V.heap.size := e.trans rfl
  injection h2 with h2
  omega⟩
theorem OwX.newg {w V : World} (g : Nat) (hg : V.heap.size = g) (hb : Below w.heap.size w V) : OwX w (V.alloc (.cells #[] 3)) g 0 (.slice (some ⟨g, 0, none⟩) 0 0) [] := hg ▸ OwX.new hb
theorem Pend.newg {w V : World} {B n : Nat} {v : Value} {xs : List Int} (g : Nat) (hg : V.heap.size = g) (h : OwX w V B n v xs) (l : List Int) : Pend (V.alloc (.cells (l.map (.int .i64)).toArray 3)) v (some ⟨g, 0, none⟩) l := hg ▸ Pend.new h l
theorem Pend.owng {V : World} {a : Option Addr} {l : List Int} (g : Nat) (hg : V.heap.size = g) (h : Ints V a l) (h0 : 0 < l.length) : Pend (V.alloc (.cells #[] 3)) (.slice (some ⟨g, 0, none⟩) 0 0) a l := hg ▸ Pend.own h h0
theorem Ints.newg (l : List Int) (V : World) (g : Nat) (hg : V.heap.size = g) : Ints (V.alloc (.cells (l.map (.int .i64)).toArray 3)) (some ⟨g, 0, none⟩) l := by
  obtain ⟨a, c, e, hi, _⟩ := NewInts.ofg l V g hg
  injection e with e
  injection e with e _ _
  subst e
  exact hi
def AnyY (L : List Int) (w : World) (e : Ending) (w' : World) : Prop := ∃ a c, e = .returned (.tuple #[.slice a L.length c, .int .i64 0]) ∧ Ints w' a L ∧ L.length ≤ c ∧ (∀ p, a = some p → w.heap.size ≤ p.block) ∧ Below w.heap.size w w'
theorem OwX.any {w V : World} {B n : Nat} {v : Value} {xs : List Int} (h : OwX w V B n v xs) (hb : Below w.heap.size w V) (hx : xs.length = n) : AnyY xs w (.returned (.tuple #[v, .int .i64 0])) V := by
  obtain ⟨a, c, rfl⟩ := own_slice h.o
  subst hx
  exact ⟨a, c, rfl, Ints.own h.o rfl, own_fit h.o, fun p hp => Nat.le_trans h.b0 (own_past0 h.o p hp), hb⟩
def anyK (c : Nat) : Nat := if c = 8 then 2 else 1
def anyL (c : Nat) (l : List Int) : List Int := if c = 6 then l ++ [l.getD (l.length - 1) 0] else if c = 7 then l.take (l.length - 1) else l.take (l.length - 2) ++ [l.getD (l.length - 1) 0, l.getD (l.length - 2) 0]
def AnyR (c : Nat) (l : List Int) (w : World) (e : Ending) (w' : World) : Prop := if l.length < anyK c then e = .returned (.tuple #[.slice none 0 0, .int .i64 22]) ∧ Below w.heap.size w w' else AnyY (anyL c l) w e w'
theorem own0 (V : World) : True := trivial
set_option maxRecDepth 100000 in
set_option maxHeartbeats 8000000 in
theorem any_r (c : Nat) (hc : c = 6 ∨ c = 7 ∨ c = 8) (l : List Int) (sa : Option Addr) (sc : Nat) (w : World) (hI : Ints w sa l) (hsc : l.length ≤ sc) (hl : l.length ≤ 20000) : Calls Try.prog 124 #[.int .i64 c, .slice sa l.length sc] w (AnyR c l w) := by
  have HI : Hid (∀ V, Below w.heap.size w V → Ints V sa l) := Lib.hid fun V hb => hI.kept (Kept.of hb)
  have HAt : Hid (0 < l.length → ∃ b o, sa = some ⟨b, o, none⟩ ∧ b < w.heap.size ∧ ∀ i, i < l.length → w.cell? ⟨b, o + i, none⟩ = some (.int .i64 (l.getD i 0))) := Lib.hid fun h => hI.at h
  obtain ⟨n, hn⟩ : ∃ n, l.length = n := ⟨_, rfl⟩
  rw [hn] at hsc hl HAt ⊢
  have HN := Lib.hid hn
  clear hn hI
  by_cases hs : n < anyK c
  · have HR : Hid (∀ V, Below w.heap.size w V → AnyR c l w (.returned (.tuple #[.slice none 0 0, .int .i64 22])) V) := Lib.hid fun V hb => by unfold AnyR; rw [HN.out, if_pos hs]; exact ⟨rfl, hb⟩
    generalize AnyR c l w = R at HR ⊢
    rcases hc with rfl | rfl | rfl
    · have hs : n < 1 := hs
      have d1 : decide ((n : Int) < 1) = true := decide_eq_true (by omega)
      have d3 : decide (n < 1) = true := decide_eq_true hs
      go_enter Try.func124, Try.ntmps124
      go_wp2
      exact HR.out _ (Below.refl _ _)
    · have hs : n < 1 := hs
      have d1 : decide ((n : Int) < 1) = true := decide_eq_true (by omega)
      have d3 : decide (n < 1) = true := decide_eq_true hs
      go_enter Try.func124, Try.ntmps124
      go_wp2
      exact HR.out _ (Below.refl _ _)
    · have hs : n < 2 := hs
      have d1 : decide ((n : Int) < 2) = true := decide_eq_true (by omega)
      have d3 : decide (n < 2) = true := decide_eq_true hs
      go_enter Try.func124, Try.ntmps124
      go_wp2
      exact HR.out _ (Below.refl _ _)
  have HR : Hid (∀ e V, AnyY (anyL c l) w e V → AnyR c l w e V) := Lib.hid fun e V hy => by unfold AnyR; rw [HN.out, if_neg hs]; exact hy
  generalize AnyR c l w = R at HR ⊢
  have HE : Hid (Below w.heap.size w w) := Lib.hid (Below.refl _ _)
  rcases hc with rfl | rfl | rfl
  · obtain ⟨k, rfl⟩ : ∃ k, n = k + 1 := ⟨n - 1, by have : ¬ n < 1 := hs; omega⟩
    obtain ⟨bs, os, rfl, hbs, hcs⟩ := HAt.out (by omega)
    have hx : w.cell? ⟨bs, os + k, none⟩ = some (.int .i64 (l.getD k 0)) := hcs k (by omega)
    have HX : Hid (∀ V, Below w.heap.size w V → V.cell? ⟨bs, os + k, none⟩ = some (.int .i64 (l.getD k 0))) := Lib.hid fun V hb => (hb.cell (p := ⟨bs, os + k, none⟩) hbs).trans hx
    have HL : Hid (anyL 6 l = l ++ [l.getD k 0]) := Lib.hid (by show l ++ [l.getD (l.length - 1) 0] = _; rw [HN.out]; rfl)
    rw [HL.out] at HR
    clear hx hcs HL HAt hs
    generalize l.getD k 0 = x at HX HR
    have wk : IntKind.i64.wrap (k : Int) = (k : Int) := by rw [IntKind.wrap_i64]; omega
    have d1 : decide (((k + 1 : Nat) : Int) < 1) = false := decide_eq_false (by omega)
    have e1 : ((k + 1 : Nat) : Int) - 1 = (k : Int) := by omega
    have e2 : (k : Int) < ((k + 1 : Nat) : Int) := by omega
    have e3 : k < k + 1 := Nat.lt_succ_self k
    have d2 : decide (k + 1 < 1) = false := decide_eq_false (by omega)
    have e4 : (k : Int) + 1 - 1 = (k : Int) := by omega
    have e5 : (k : Int) < (k : Int) + 1 := by omega
    have d3 : decide ((k : Int) + 1 < 1) = false := decide_eq_false (by omega)
    go_enter Try.func124, Try.ntmps124
    go_upto_region 6 with fail
    refine region_e 11 (fun w' => Below w.heap.size w w' ∧ w'.cell? ⟨bs, os + k, none⟩ = some (.int .i64 x)) (by kernel_rfl) ⟨(Below.refl _ _).drew, HX.out _ (Below.refl _ _).drew⟩ (fun hHeld => ?_)
    refine AnyE.take2 (i := 1) [] (oi := { dst := some 15, op := Go.Op.move (Go.Operand.tmp 1), type := 48, pos := "ref.go:119", after := #[], guard := none }) (v := ?_) rfl (by kernel_rfl) (by kernel_rfl) (by kernel_rfl) (by kernel_rfl) (fun _ _ _ h => h) (Or.inl ⟨by rfl, ?_⟩) (by assumption) ?_
    rotate_left
    · (intro w0 hSw; (try dsimp only at hSw); go_split_ands; go_simp; with_reducible rfl)
    try simp only [Act.put, List.setIfInBounds_toArray, List.set_cons_zero, List.set_cons_succ]
    refine AnyE.take2 (i := 3) [] (oi := { dst := some 17, op := Go.Op.move (Go.Operand.tmp 1), type := 48, pos := "ref.go:119", after := #[], guard := none }) (v := ?_) rfl (by kernel_rfl) (by kernel_rfl) (by kernel_rfl) (by kernel_rfl) (fun _ _ _ h => h) (Or.inl ⟨by rfl, ?_⟩) (by assumption) ?_
    rotate_left
    · (intro w0 hSw; (try dsimp only at hSw); go_split_ands; go_simp; with_reducible rfl)
    try simp only [Act.put, List.setIfInBounds_toArray, List.set_cons_zero, List.set_cons_succ]
    refine AnyE.take2 (i := 4) [] (oi := { dst := some 18, op := Go.Op.move (Go.Operand.tmp 6), type := 3, pos := "ref.go:119", after := #[], guard := none }) (v := ?_) rfl (by kernel_rfl) (by kernel_rfl) (by kernel_rfl) (by kernel_rfl) (fun _ _ _ h => h) (Or.inl ⟨by rfl, ?_⟩) (by assumption) ?_
    rotate_left
    · (intro w0 hSw; (try dsimp only at hSw); go_split_ands; go_simp; with_reducible rfl)
    try simp only [Act.put, List.setIfInBounds_toArray, List.set_cons_zero, List.set_cons_succ]
    refine AnyE.take2 (i := 5) [] (oi := { dst := some 19, op := Go.Op.binOp Go.BinOp.sub 3 (Go.Operand.tmp 18) (Go.Operand.const (Go.Value.int Go.IntKind.i64 1)) 3, type := 3, pos := "ref.go:119", after := #[{ on := 4, ground := Go.Ground.data }], guard := none }) (v := ?_) rfl (by kernel_rfl) (by kernel_rfl) (by kernel_rfl) (by kernel_rfl) (fun _ _ _ h => h) (Or.inl ⟨by rfl, ?_⟩) (by assumption) ?_
    rotate_left
    · (intro w0 hSw; (try dsimp only at hSw); go_split_ands; go_simp; with_reducible rfl)
    try simp only [Act.put, List.setIfInBounds_toArray, List.set_cons_zero, List.set_cons_succ]
    refine AnyE.take2 (i := 6) [] (oi := { dst := some 20, op := Go.Op.indexAddr 48 (Go.Operand.tmp 17) (Go.Operand.tmp 19), type := 0, pos := "ref.go:119", after := #[{ on := 3, ground := Go.Ground.data }, { on := 5, ground := Go.Ground.data }], guard := none }) (v := ?_) rfl (by kernel_rfl) (by kernel_rfl) (by kernel_rfl) (by kernel_rfl) (fun _ _ _ h => h) (Or.inl ⟨by rfl, ?_⟩) (by assumption) ?_
    rotate_left
    · (intro w0 hSw; (try dsimp only at hSw); go_split_ands; go_simp; with_reducible rfl)
    try simp only [Act.put, List.setIfInBounds_toArray, List.set_cons_zero, List.set_cons_succ]
    refine AnyE.take2 (i := 7) [] (oi := { dst := some 21, op := Go.Op.load 3 (Go.Operand.tmp 20), type := 3, pos := "ref.go:119", after := #[{ on := 6, ground := Go.Ground.data }], guard := none }) (v := ?_) rfl (by kernel_rfl) (by kernel_rfl) (by kernel_rfl) (by kernel_rfl) (fun _ _ _ h => h) (Or.inl ⟨by rfl, ?_⟩) (by assumption) ?_
    rotate_left
    · (intro w0 hSw; (try dsimp only at hSw); go_split_ands; go_simp; with_reducible rfl)
    try simp only [Act.put, List.setIfInBounds_toArray, List.set_cons_zero, List.set_cons_succ]
    have HB : Hid (Below w.heap.size w w.drew) := Lib.hid (Below.refl _ _).drew
    generalize w.drew = u0 at hHeld HB ⊢
    refine AnyE.ready (rs := [0, 8]) (by kernel_rfl) (by simp) ?_
    refine (AllE.cons (o := { dst := some 14, op := Go.Op.buildSlice 48 0 #[], type := 48, pos := "ref.go:119", after := #[], guard := none }) rfl (fun KK hKK => ?_) (AllE.cons (o := { dst := some 22, op := Go.Op.buildSlice 48 1 #[(0, Go.Operand.tmp 21)], type := 48, pos := "ref.go:119", after := #[{ on := 7, ground := Go.Ground.data }], guard := none }) rfl (fun KK hKK => ?_) AllE.nil))
    · go_simp
      have HO : Hid (OwX w (u0.alloc (.cells #[] 3)) (u0.heap.size) 0 (.slice (some ⟨u0.heap.size, 0, none⟩) 0 0) []) := Lib.hid (OwX.newg (u0.heap.size) rfl HB.out)
      replace HB : Hid (Below w.heap.size w (u0.alloc (.cells #[] 3))) := Lib.hid (HB.out.alloc HB.out.size _)
      refine hKK.out _ _ ⟨HB.out, HX.out _ HB.out⟩ (fun hHeld => ?_)
      clear hKK KK
      try simp only [Act.put, List.setIfInBounds_toArray, List.set_cons_zero, List.set_cons_succ]
      refine AnyE.ready (rs := [2, 8]) (by kernel_rfl) (by simp) ?_
      refine (AllE.cons (o := { dst := some 16, op := Go.Op.call { callee := Go.Callee.builtin Go.Builtin.append, args := #[Go.Operand.tmp 14, Go.Operand.tmp 15], argTypes := #[48, 48] }, type := 48, pos := "ref.go:119", after := #[{ on := 0, ground := Go.Ground.data }, { on := 1, ground := Go.Ground.data }], guard := none }) rfl (fun KK hKK => ?_) (AllE.cons (o := { dst := some 22, op := Go.Op.buildSlice 48 1 #[(0, Go.Operand.tmp 21)], type := 48, pos := "ref.go:119", after := #[{ on := 7, ground := Go.Ground.data }], guard := none }) rfl (fun KK hKK => ?_) AllE.nil))
      · obtain ⟨v1, u1, hr1, ho1, hb1, hp1⟩ := HO.out.app (HI.out _ HB.out) (HN.out) (by omega) sc
        refine step_append_run rfl _ _ _ rfl _ _ _ _ rfl (by rfl) hr1 ?_
        clear hr1
        replace HB : Hid (Below w.heap.size w u1) := Lib.hid (HB.out.trans (hb1.mono HO.out.b0))
        replace HO := Lib.hid ho1
        clear ho1 hb1 hp1
        refine hKK.out _ _ ⟨HB.out, HX.out _ HB.out⟩ (fun hHeld => ?_)
        clear hKK KK
        try simp only [Act.put, List.setIfInBounds_toArray, List.set_cons_zero, List.set_cons_succ]
        refine AnyE.ready (rs := [8]) (by kernel_rfl) (by simp) ?_
        refine (AllE.cons (o := { dst := some 22, op := Go.Op.buildSlice 48 1 #[(0, Go.Operand.tmp 21)], type := 48, pos := "ref.go:119", after := #[{ on := 7, ground := Go.Ground.data }], guard := none }) rfl (fun KK hKK => ?_) AllE.nil)
        go_simp
        have HP : Hid (Pend (u1.alloc (.cells #[.int .i64 x] 3)) v1 (some ⟨u1.heap.size, 0, none⟩) [x]) := Lib.hid (Pend.newg (u1.heap.size) rfl HO.out [x])
        replace HO : Hid (OwX w (u1.alloc (.cells #[.int .i64 x] 3)) _ _ v1 _) := Lib.hid (HO.out.alloc _)
        replace HB : Hid (Below w.heap.size w (u1.alloc (.cells #[.int .i64 x] 3))) := Lib.hid (HB.out.alloc HB.out.size _)
        refine hKK.out _ _ ⟨HB.out, HX.out _ HB.out⟩ (fun hHeld => ?_)
        clear hKK KK
        try simp only [Act.put, List.setIfInBounds_toArray, List.set_cons_zero, List.set_cons_succ]
        refine AnyE.ready (rs := [9]) (by kernel_rfl) (by simp) ?_
        refine AllE.cons (o := { dst := some 23, op := Go.Op.call { callee := Go.Callee.builtin Go.Builtin.append, args := #[Go.Operand.tmp 16, Go.Operand.tmp 22], argTypes := #[48, 48] }, type := 48, pos := "ref.go:119", after := #[{ on := 2, ground := Go.Ground.data }, { on := 8, ground := Go.Ground.data }, { on := 2, ground := Go.Ground.chain }], guard := none }) rfl (fun KK hKK => ?_) AllE.nil
        obtain ⟨v2, u2, hr2, ho2, hb2, _⟩ := HO.out.app HP.out.1 rfl (by simp only [List.length_cons, List.length_nil]; omega) 1
        refine step_append_run rfl _ _ _ rfl _ _ _ _ rfl (by rfl) hr2 ?_
        clear hr2
        replace HB : Hid (Below w.heap.size w u2) := Lib.hid (HB.out.trans (hb2.mono HO.out.b0))
        replace HO := Lib.hid ho2
        clear ho2 hb2
        refine hKK.out _ _ ⟨HB.out, HX.out _ HB.out⟩ (fun hHeld => ?_)
        clear hKK KK
        try simp only [Act.put, List.setIfInBounds_toArray, List.set_cons_zero, List.set_cons_succ]
        refine AnyE.take2 (i := 10) [] (oi := { dst := some 4, op := Go.Op.assign (Go.Operand.tmp 23), type := 48, pos := "ref.go:119", after := #[{ on := 9, ground := Go.Ground.data }, { on := 9, ground := Go.Ground.chain }, { on := 0, ground := Go.Ground.phase }, { on := 1, ground := Go.Ground.phase }, { on := 2, ground := Go.Ground.phase }, { on := 3, ground := Go.Ground.phase }, { on := 4, ground := Go.Ground.phase }, { on := 5, ground := Go.Ground.phase }, { on := 6, ground := Go.Ground.phase }, { on := 7, ground := Go.Ground.phase }, { on := 8, ground := Go.Ground.phase }, { on := 9, ground := Go.Ground.phase }], guard := none }) (v := ?_) rfl (by kernel_rfl) (by kernel_rfl) (by kernel_rfl) (by kernel_rfl) (fun _ _ _ h => h) (Or.inl ⟨by rfl, ?_⟩) (by assumption) ?_
        rotate_left
        · (intro w0 hSw; (try dsimp only at hSw); go_split_ands; go_simp; with_reducible rfl)
        try simp only [Act.put, List.setIfInBounds_toArray, List.set_cons_zero, List.set_cons_succ]
        refine AnyE.ready (rs := [11]) (by kernel_rfl) (by simp) ?_
        refine AllE.last (o := { dst := some 5, op := Go.Op.assign (Go.Operand.const (Go.Value.int Go.IntKind.i64 0)), type := 3, pos := "ref.go:119", after := #[{ on := 10, ground := Go.Ground.chain }, { on := 0, ground := Go.Ground.phase }, { on := 1, ground := Go.Ground.phase }, { on := 2, ground := Go.Ground.phase }, { on := 3, ground := Go.Ground.phase }, { on := 4, ground := Go.Ground.phase }, { on := 5, ground := Go.Ground.phase }, { on := 6, ground := Go.Ground.phase }, { on := 7, ground := Go.Ground.phase }, { on := 8, ground := Go.Ground.phase }, { on := 9, ground := Go.Ground.phase }, { on := 10, ground := Go.Ground.phase }], guard := none }) rfl (by kernel_rfl) (fun KK hKK => ?_)
        go_simp
        refine hKK.out _ _ ?_
        clear hKK KK
        try simp only [Act.put, List.setIfInBounds_toArray, List.set_cons_zero, List.set_cons_succ]
        go_wp2
        exact HR.out _ _ (HO.out.any HB.out (by simp [HN.out]))
      · go_simp
        have HP : Hid (Pend ((u0.alloc (.cells #[] 3)).alloc (.cells #[.int .i64 x] 3)) (.slice (some ⟨u0.heap.size, 0, none⟩) 0 0) (some ⟨u0.heap.size + 1, 0, none⟩) [x]) := Lib.hid (Pend.newg (u0.heap.size + 1) (by simp only [World.size_alloc]) HO.out [x])
        replace HO : Hid (OwX w ((u0.alloc (.cells #[] 3)).alloc (.cells #[.int .i64 x] 3)) _ 0 (.slice (some ⟨u0.heap.size, 0, none⟩) 0 0) []) := Lib.hid (HO.out.alloc _)
        replace HB : Hid (Below w.heap.size w ((u0.alloc (.cells #[] 3)).alloc (.cells #[.int .i64 x] 3))) := Lib.hid (HB.out.alloc HB.out.size _)
        refine hKK.out _ _ ⟨HB.out, HX.out _ HB.out⟩ (fun hHeld => ?_)
        clear hKK KK
        try simp only [Act.put, List.setIfInBounds_toArray, List.set_cons_zero, List.set_cons_succ]
        refine AnyE.ready (rs := [2]) (by kernel_rfl) (by simp) ?_
        refine (AllE.cons (o := { dst := some 16, op := Go.Op.call { callee := Go.Callee.builtin Go.Builtin.append, args := #[Go.Operand.tmp 14, Go.Operand.tmp 15], argTypes := #[48, 48] }, type := 48, pos := "ref.go:119", after := #[{ on := 0, ground := Go.Ground.data }, { on := 1, ground := Go.Ground.data }], guard := none }) rfl (fun KK hKK => ?_) AllE.nil)
        obtain ⟨v1, u1, hr1, ho1, hb1, hp1⟩ := HO.out.app (HI.out _ HB.out) (HN.out) (by omega) sc
        refine step_append_run rfl _ _ _ rfl _ _ _ _ rfl (by rfl) hr1 ?_
        clear hr1
        replace HB : Hid (Below w.heap.size w u1) := Lib.hid (HB.out.trans (hb1.mono HO.out.b0))
        replace HP : Hid (Pend u1 v1 (some ⟨u0.heap.size + 1, 0, none⟩) [x]) := Lib.hid (hp1 _ _ HP.out (by simp))
        replace HO := Lib.hid ho1
        clear ho1 hb1 hp1
        refine hKK.out _ _ ⟨HB.out, HX.out _ HB.out⟩ (fun hHeld => ?_)
        clear hKK KK
        try simp only [Act.put, List.setIfInBounds_toArray, List.set_cons_zero, List.set_cons_succ]
        refine AnyE.ready (rs := [9]) (by kernel_rfl) (by simp) ?_
        refine AllE.cons (o := { dst := some 23, op := Go.Op.call { callee := Go.Callee.builtin Go.Builtin.append, args := #[Go.Operand.tmp 16, Go.Operand.tmp 22], argTypes := #[48, 48] }, type := 48, pos := "ref.go:119", after := #[{ on := 2, ground := Go.Ground.data }, { on := 8, ground := Go.Ground.data }, { on := 2, ground := Go.Ground.chain }], guard := none }) rfl (fun KK hKK => ?_) AllE.nil
        obtain ⟨v2, u2, hr2, ho2, hb2, _⟩ := HO.out.app HP.out.1 rfl (by simp only [List.length_cons, List.length_nil]; omega) 1
        refine step_append_run rfl _ _ _ rfl _ _ _ _ rfl (by rfl) hr2 ?_
        clear hr2
        replace HB : Hid (Below w.heap.size w u2) := Lib.hid (HB.out.trans (hb2.mono HO.out.b0))
        replace HO := Lib.hid ho2
        clear ho2 hb2
        refine hKK.out _ _ ⟨HB.out, HX.out _ HB.out⟩ (fun hHeld => ?_)
        clear hKK KK
        try simp only [Act.put, List.setIfInBounds_toArray, List.set_cons_zero, List.set_cons_succ]
        refine AnyE.take2 (i := 10) [] (oi := { dst := some 4, op := Go.Op.assign (Go.Operand.tmp 23), type := 48, pos := "ref.go:119", after := #[{ on := 9, ground := Go.Ground.data }, { on := 9, ground := Go.Ground.chain }, { on := 0, ground := Go.Ground.phase }, { on := 1, ground := Go.Ground.phase }, { on := 2, ground := Go.Ground.phase }, { on := 3, ground := Go.Ground.phase }, { on := 4, ground := Go.Ground.phase }, { on := 5, ground := Go.Ground.phase }, { on := 6, ground := Go.Ground.phase }, { on := 7, ground := Go.Ground.phase }, { on := 8, ground := Go.Ground.phase }, { on := 9, ground := Go.Ground.phase }], guard := none }) (v := ?_) rfl (by kernel_rfl) (by kernel_rfl) (by kernel_rfl) (by kernel_rfl) (fun _ _ _ h => h) (Or.inl ⟨by rfl, ?_⟩) (by assumption) ?_
        rotate_left
        · (intro w0 hSw; (try dsimp only at hSw); go_split_ands; go_simp; with_reducible rfl)
        try simp only [Act.put, List.setIfInBounds_toArray, List.set_cons_zero, List.set_cons_succ]
        refine AnyE.ready (rs := [11]) (by kernel_rfl) (by simp) ?_
        refine AllE.last (o := { dst := some 5, op := Go.Op.assign (Go.Operand.const (Go.Value.int Go.IntKind.i64 0)), type := 3, pos := "ref.go:119", after := #[{ on := 10, ground := Go.Ground.chain }, { on := 0, ground := Go.Ground.phase }, { on := 1, ground := Go.Ground.phase }, { on := 2, ground := Go.Ground.phase }, { on := 3, ground := Go.Ground.phase }, { on := 4, ground := Go.Ground.phase }, { on := 5, ground := Go.Ground.phase }, { on := 6, ground := Go.Ground.phase }, { on := 7, ground := Go.Ground.phase }, { on := 8, ground := Go.Ground.phase }, { on := 9, ground := Go.Ground.phase }, { on := 10, ground := Go.Ground.phase }], guard := none }) rfl (by kernel_rfl) (fun KK hKK => ?_)
        go_simp
        refine hKK.out _ _ ?_
        clear hKK KK
        try simp only [Act.put, List.setIfInBounds_toArray, List.set_cons_zero, List.set_cons_succ]
        go_wp2
        exact HR.out _ _ (HO.out.any HB.out (by simp [HN.out]))
    · go_simp
      have HP : Hid (Ints (u0.alloc (.cells #[.int .i64 x] 3)) (some ⟨u0.heap.size, 0, none⟩) [x]) := Lib.hid (Ints.newg [x] u0 (u0.heap.size) rfl)
      replace HB : Hid (Below w.heap.size w (u0.alloc (.cells #[.int .i64 x] 3))) := Lib.hid (HB.out.alloc HB.out.size _)
      refine hKK.out _ _ ⟨HB.out, HX.out _ HB.out⟩ (fun hHeld => ?_)
      clear hKK KK
      try simp only [Act.put, List.setIfInBounds_toArray, List.set_cons_zero, List.set_cons_succ]
      refine AnyE.ready (rs := [0]) (by kernel_rfl) (by simp) ?_
      refine (AllE.cons (o := { dst := some 14, op := Go.Op.buildSlice 48 0 #[], type := 48, pos := "ref.go:119", after := #[], guard := none }) rfl (fun KK hKK => ?_) AllE.nil)
      go_simp
      have HO : Hid (OwX w ((u0.alloc (.cells #[.int .i64 x] 3)).alloc (.cells #[] 3)) (u0.heap.size + 1) 0 (.slice (some ⟨u0.heap.size + 1, 0, none⟩) 0 0) []) := Lib.hid (OwX.newg (u0.heap.size + 1) (by simp only [World.size_alloc]) HB.out)
      replace HP : Hid (Pend ((u0.alloc (.cells #[.int .i64 x] 3)).alloc (.cells #[] 3)) (.slice (some ⟨u0.heap.size + 1, 0, none⟩) 0 0) (some ⟨u0.heap.size, 0, none⟩) [x]) := Lib.hid (Pend.owng (u0.heap.size + 1) (by simp only [World.size_alloc]) HP.out (by simp))
      replace HB : Hid (Below w.heap.size w ((u0.alloc (.cells #[.int .i64 x] 3)).alloc (.cells #[] 3))) := Lib.hid (HB.out.alloc HB.out.size _)
      refine hKK.out _ _ ⟨HB.out, HX.out _ HB.out⟩ (fun hHeld => ?_)
      clear hKK KK
      try simp only [Act.put, List.setIfInBounds_toArray, List.set_cons_zero, List.set_cons_succ]
      refine AnyE.ready (rs := [2]) (by kernel_rfl) (by simp) ?_
      refine (AllE.cons (o := { dst := some 16, op := Go.Op.call { callee := Go.Callee.builtin Go.Builtin.append, args := #[Go.Operand.tmp 14, Go.Operand.tmp 15], argTypes := #[48, 48] }, type := 48, pos := "ref.go:119", after := #[{ on := 0, ground := Go.Ground.data }, { on := 1, ground := Go.Ground.data }], guard := none }) rfl (fun KK hKK => ?_) AllE.nil)
      obtain ⟨v1, u1, hr1, ho1, hb1, hp1⟩ := HO.out.app (HI.out _ HB.out) (HN.out) (by omega) sc
      refine step_append_run rfl _ _ _ rfl _ _ _ _ rfl (by rfl) hr1 ?_
      clear hr1
      replace HB : Hid (Below w.heap.size w u1) := Lib.hid (HB.out.trans (hb1.mono HO.out.b0))
      replace HP : Hid (Pend u1 v1 (some ⟨u0.heap.size, 0, none⟩) [x]) := Lib.hid (hp1 _ _ HP.out (by simp))
      replace HO := Lib.hid ho1
      clear ho1 hb1 hp1
      refine hKK.out _ _ ⟨HB.out, HX.out _ HB.out⟩ (fun hHeld => ?_)
      clear hKK KK
      try simp only [Act.put, List.setIfInBounds_toArray, List.set_cons_zero, List.set_cons_succ]
      refine AnyE.ready (rs := [9]) (by kernel_rfl) (by simp) ?_
      refine AllE.cons (o := { dst := some 23, op := Go.Op.call { callee := Go.Callee.builtin Go.Builtin.append, args := #[Go.Operand.tmp 16, Go.Operand.tmp 22], argTypes := #[48, 48] }, type := 48, pos := "ref.go:119", after := #[{ on := 2, ground := Go.Ground.data }, { on := 8, ground := Go.Ground.data }, { on := 2, ground := Go.Ground.chain }], guard := none }) rfl (fun KK hKK => ?_) AllE.nil
      obtain ⟨v2, u2, hr2, ho2, hb2, _⟩ := HO.out.app HP.out.1 rfl (by simp only [List.length_cons, List.length_nil]; omega) 1
      refine step_append_run rfl _ _ _ rfl _ _ _ _ rfl (by rfl) hr2 ?_
      clear hr2
      replace HB : Hid (Below w.heap.size w u2) := Lib.hid (HB.out.trans (hb2.mono HO.out.b0))
      replace HO := Lib.hid ho2
      clear ho2 hb2
      refine hKK.out _ _ ⟨HB.out, HX.out _ HB.out⟩ (fun hHeld => ?_)
      clear hKK KK
      try simp only [Act.put, List.setIfInBounds_toArray, List.set_cons_zero, List.set_cons_succ]
      refine AnyE.take2 (i := 10) [] (oi := { dst := some 4, op := Go.Op.assign (Go.Operand.tmp 23), type := 48, pos := "ref.go:119", after := #[{ on := 9, ground := Go.Ground.data }, { on := 9, ground := Go.Ground.chain }, { on := 0, ground := Go.Ground.phase }, { on := 1, ground := Go.Ground.phase }, { on := 2, ground := Go.Ground.phase }, { on := 3, ground := Go.Ground.phase }, { on := 4, ground := Go.Ground.phase }, { on := 5, ground := Go.Ground.phase }, { on := 6, ground := Go.Ground.phase }, { on := 7, ground := Go.Ground.phase }, { on := 8, ground := Go.Ground.phase }, { on := 9, ground := Go.Ground.phase }], guard := none }) (v := ?_) rfl (by kernel_rfl) (by kernel_rfl) (by kernel_rfl) (by kernel_rfl) (fun _ _ _ h => h) (Or.inl ⟨by rfl, ?_⟩) (by assumption) ?_
      rotate_left
      · (intro w0 hSw; (try dsimp only at hSw); go_split_ands; go_simp; with_reducible rfl)
      try simp only [Act.put, List.setIfInBounds_toArray, List.set_cons_zero, List.set_cons_succ]
      refine AnyE.ready (rs := [11]) (by kernel_rfl) (by simp) ?_
      refine AllE.last (o := { dst := some 5, op := Go.Op.assign (Go.Operand.const (Go.Value.int Go.IntKind.i64 0)), type := 3, pos := "ref.go:119", after := #[{ on := 10, ground := Go.Ground.chain }, { on := 0, ground := Go.Ground.phase }, { on := 1, ground := Go.Ground.phase }, { on := 2, ground := Go.Ground.phase }, { on := 3, ground := Go.Ground.phase }, { on := 4, ground := Go.Ground.phase }, { on := 5, ground := Go.Ground.phase }, { on := 6, ground := Go.Ground.phase }, { on := 7, ground := Go.Ground.phase }, { on := 8, ground := Go.Ground.phase }, { on := 9, ground := Go.Ground.phase }, { on := 10, ground := Go.Ground.phase }], guard := none }) rfl (by kernel_rfl) (fun KK hKK => ?_)
      go_simp
      refine hKK.out _ _ ?_
      clear hKK KK
      try simp only [Act.put, List.setIfInBounds_toArray, List.set_cons_zero, List.set_cons_succ]
      go_wp2
      exact HR.out _ _ (HO.out.any HB.out (by simp [HN.out]))
  · obtain ⟨k, rfl⟩ : ∃ k, n = k + 1 := ⟨n - 1, by have : ¬ n < 1 := hs; omega⟩
    have HL : Hid (anyL 7 l = l.take k) := Lib.hid (by show l.take (l.length - 1) = _; rw [HN.out]; rfl)
    rw [HL.out] at HR
    clear HL HAt hs
    have hst : ∀ V, (Instr.sliceAt 48 (.slice sa (k + 1) sc) none (some (.int .i64 k)) none).run Try.prog V = .ok (.slice (if sc = 0 then sa else sa.map (·.add (0 * 1))) k sc) V := fun V => slice_to sa (k + 1) sc k (by omega) V
    have HId : Hid (∀ V, Below w.heap.size w V → Ints V (if sc = 0 then sa else sa.map (·.add (0 * 1))) (l.take k)) := Lib.hid fun V hb => (HI.out V hb).take (by rw [HN.out]; omega)
    generalize (if sc = 0 then sa else sa.map (·.add (0 * 1))) = a4 at hst HId
    have hlt : (l.take k).length = k := by rw [List.length_take, HN.out]; omega
    have wk : IntKind.i64.wrap (k : Int) = (k : Int) := by rw [IntKind.wrap_i64]; omega
    have d1 : decide (((k + 1 : Nat) : Int) < 1) = false := decide_eq_false (by omega)
    have e1 : ((k + 1 : Nat) : Int) - 1 = (k : Int) := by omega
    have d2 : decide (k + 1 < 1) = false := decide_eq_false (by omega)
    have e4 : (k : Int) + 1 - 1 = (k : Int) := by omega
    have d3 : decide ((k : Int) + 1 < 1) = false := decide_eq_false (by omega)
    have HB : Hid (Below w.heap.size w (w.alloc (.cells #[] 3))) := Lib.hid ((Below.refl _ _).alloc (Nat.le_refl _) _)
    obtain ⟨v1, u1, hr1, ho1, hb1, _⟩ := (OwX.new (Below.refl w.heap.size w)).app (HId.out _ HB.out) hlt (by omega) sc
    have HRun := Lib.hid hr1
    have HO := Lib.hid ho1
    have HB1 := Lib.hid (HB.out.trans hb1)
    clear hr1 ho1 hb1
    go_enter Try.func124, Try.ntmps124
    go_wp2_with (at_builtin; refine Lib.wpList_append_run _ rfl _ _ _ _ rfl _ _ rfl rfl _ _ HRun.out ?_)
    exact HR.out _ _ (HO.out.any HB1.out (by rw [List.nil_append, hlt]; omega))
  · obtain ⟨k, rfl⟩ : ∃ k, n = k + 2 := ⟨n - 2, by have : ¬ n < 2 := hs; omega⟩
    obtain ⟨bs, os, rfl, hbs, hcs⟩ := HAt.out (by omega)
    have hx : w.cell? ⟨bs, os + (k + 1), none⟩ = some (.int .i64 (l.getD (k + 1) 0)) := hcs (k + 1) (by omega)
    have hy : w.cell? ⟨bs, os + k, none⟩ = some (.int .i64 (l.getD k 0)) := hcs k (by omega)
    have HX : Hid (∀ V, Below w.heap.size w V → V.cell? ⟨bs, os + (k + 1), none⟩ = some (.int .i64 (l.getD (k + 1) 0)) ∧ V.cell? ⟨bs, os + k, none⟩ = some (.int .i64 (l.getD k 0))) := Lib.hid fun V hb => ⟨(hb.cell (p := ⟨bs, os + (k + 1), none⟩) hbs).trans hx, (hb.cell (p := ⟨bs, os + k, none⟩) hbs).trans hy⟩
    have HL : Hid (anyL 8 l = l.take k ++ [l.getD (k + 1) 0, l.getD k 0]) := Lib.hid (by show l.take (l.length - 2) ++ [l.getD (l.length - 1) 0, l.getD (l.length - 2) 0] = _; rw [HN.out]; rfl)
    rw [HL.out] at HR
    clear hx hy hcs HL HAt hs
    generalize l.getD (k + 1) 0 = x at HX HR
    generalize l.getD k 0 = y at HX HR
    have hst : ∀ V, (Instr.sliceAt 48 (.slice (some ⟨bs, os, none⟩) (k + 2) sc) none (some (.int .i64 k)) none).run Try.prog V = .ok (.slice (some ⟨bs, os, none⟩) k sc) V := fun V => by
      have := slice_to (some ⟨bs, os, none⟩) (k + 2) sc k (by omega) V
      rw [this, if_neg (by omega)]
      rfl
    have HId : Hid (∀ V, Below w.heap.size w V → Ints V (some ⟨bs, os, none⟩) (l.take k)) := Lib.hid fun V hb => by
      have := (HI.out V hb).take (sc := sc) (n := k) (by rw [HN.out]; omega)
      rw [if_neg (by omega)] at this
      exact this
    have hlt : (l.take k).length = k := by rw [List.length_take, HN.out]; omega
    have wk : IntKind.i64.wrap (k : Int) = (k : Int) := by rw [IntKind.wrap_i64]; omega
    have wk1 : IntKind.i64.wrap ((k : Int) + 1) = (k : Int) + 1 := by rw [IntKind.wrap_i64]; omega
    have d1 : decide (((k + 2 : Nat) : Int) < 2) = false := decide_eq_false (by omega)
    have e1 : ((k + 2 : Nat) : Int) - 1 = ((k + 1 : Nat) : Int) := by omega
    have e2 : ((k + 2 : Nat) : Int) - 2 = (k : Int) := by omega
    have e3 : (k : Int) < ((k + 2 : Nat) : Int) := by omega
    have e4 : ((k + 1 : Nat) : Int) < ((k + 2 : Nat) : Int) := by omega
    have e5 : (k : Int) + 2 - 1 = (k : Int) + 1 := by omega
    have e6 : (k : Int) + 2 - 2 = (k : Int) := by omega
    have e7 : (k : Int) < (k : Int) + 2 := by omega
    have e8 : (k : Int) + 1 < (k : Int) + 2 := by omega
    have d2 : decide (k + 2 < 2) = false := decide_eq_false (by omega)
    have d3 : decide ((k : Int) + 2 < 2) = false := decide_eq_false (by omega)
    have e9 : k + 1 < k + 2 := by omega
    have e10 : k < k + 2 := by omega
    have e11 : ((k : Int) + 1).toNat = k + 1 := by omega
    have e12 : (0 : Int) ≤ (k : Int) + 1 := by omega
    go_enter Try.func124, Try.ntmps124
    go_upto_region 13 with fail
    refine region_e 19 (fun w' => Below w.heap.size w w' ∧ w'.cell? ⟨bs, os + (k + 1), none⟩ = some (.int .i64 x) ∧ w'.cell? ⟨bs, os + k, none⟩ = some (.int .i64 y)) (by kernel_rfl) ⟨(Below.refl _ _).drew, HX.out _ (Below.refl _ _).drew⟩ (fun hHeld => ?_)
    refine AnyE.take2 (i := 1) [] (oi := { dst := some 37, op := Go.Op.move (Go.Operand.tmp 1), type := 48, pos := "ref.go:129", after := #[], guard := none }) (v := ?_) rfl (by kernel_rfl) (by kernel_rfl) (by kernel_rfl) (by kernel_rfl) (fun _ _ _ h => h) (Or.inl ⟨by rfl, ?_⟩) (by assumption) ?_
    rotate_left
    · (intro w0 hSw; (try dsimp only at hSw); go_split_ands; go_simp; with_reducible rfl)
    try simp only [Act.put, List.setIfInBounds_toArray, List.set_cons_zero, List.set_cons_succ]
    refine AnyE.take2 (i := 2) [] (oi := { dst := some 38, op := Go.Op.move (Go.Operand.tmp 6), type := 3, pos := "ref.go:129", after := #[], guard := none }) (v := ?_) rfl (by kernel_rfl) (by kernel_rfl) (by kernel_rfl) (by kernel_rfl) (fun _ _ _ h => h) (Or.inl ⟨by rfl, ?_⟩) (by assumption) ?_
    rotate_left
    · (intro w0 hSw; (try dsimp only at hSw); go_split_ands; go_simp; with_reducible rfl)
    try simp only [Act.put, List.setIfInBounds_toArray, List.set_cons_zero, List.set_cons_succ]
    refine AnyE.take2 (i := 3) [] (oi := { dst := some 39, op := Go.Op.binOp Go.BinOp.sub 3 (Go.Operand.tmp 38) (Go.Operand.const (Go.Value.int Go.IntKind.i64 2)) 3, type := 3, pos := "ref.go:129", after := #[{ on := 2, ground := Go.Ground.data }], guard := none }) (v := ?_) rfl (by kernel_rfl) (by kernel_rfl) (by kernel_rfl) (by kernel_rfl) (fun _ _ _ h => h) (Or.inl ⟨by rfl, ?_⟩) (by assumption) ?_
    rotate_left
    · (intro w0 hSw; (try dsimp only at hSw); go_split_ands; go_simp; with_reducible rfl)
    try simp only [Act.put, List.setIfInBounds_toArray, List.set_cons_zero, List.set_cons_succ]
    refine AnyE.take2 (i := 4) [] (oi := { dst := some 40, op := Go.Op.slice 48 (Go.Operand.tmp 37) none (some (Go.Operand.tmp 39)) none, type := 48, pos := "ref.go:129", after := #[{ on := 1, ground := Go.Ground.data }, { on := 3, ground := Go.Ground.data }], guard := none }) (v := ?_) rfl (by kernel_rfl) (by kernel_rfl) (by kernel_rfl) (by kernel_rfl) (fun _ _ _ h => h) (Or.inl ⟨by rfl, ?_⟩) (by assumption) ?_
    rotate_left
    · (intro w0 hSw; (try dsimp only at hSw); go_split_ands; go_simp; with_reducible rfl)
    try simp only [Act.put, List.setIfInBounds_toArray, List.set_cons_zero, List.set_cons_succ]
    refine AnyE.take2 (i := 6) [] (oi := { dst := some 42, op := Go.Op.move (Go.Operand.tmp 1), type := 48, pos := "ref.go:129", after := #[], guard := none }) (v := ?_) rfl (by kernel_rfl) (by kernel_rfl) (by kernel_rfl) (by kernel_rfl) (fun _ _ _ h => h) (Or.inl ⟨by rfl, ?_⟩) (by assumption) ?_
    rotate_left
    · (intro w0 hSw; (try dsimp only at hSw); go_split_ands; go_simp; with_reducible rfl)
    try simp only [Act.put, List.setIfInBounds_toArray, List.set_cons_zero, List.set_cons_succ]
    refine AnyE.take2 (i := 7) [] (oi := { dst := some 43, op := Go.Op.move (Go.Operand.tmp 6), type := 3, pos := "ref.go:129", after := #[], guard := none }) (v := ?_) rfl (by kernel_rfl) (by kernel_rfl) (by kernel_rfl) (by kernel_rfl) (fun _ _ _ h => h) (Or.inl ⟨by rfl, ?_⟩) (by assumption) ?_
    rotate_left
    · (intro w0 hSw; (try dsimp only at hSw); go_split_ands; go_simp; with_reducible rfl)
    try simp only [Act.put, List.setIfInBounds_toArray, List.set_cons_zero, List.set_cons_succ]
    refine AnyE.take2 (i := 8) [] (oi := { dst := some 44, op := Go.Op.binOp Go.BinOp.sub 3 (Go.Operand.tmp 43) (Go.Operand.const (Go.Value.int Go.IntKind.i64 1)) 3, type := 3, pos := "ref.go:129", after := #[{ on := 7, ground := Go.Ground.data }], guard := none }) (v := ?_) rfl (by kernel_rfl) (by kernel_rfl) (by kernel_rfl) (by kernel_rfl) (fun _ _ _ h => h) (Or.inl ⟨by rfl, ?_⟩) (by assumption) ?_
    rotate_left
    · (intro w0 hSw; (try dsimp only at hSw); go_split_ands; go_simp; with_reducible rfl)
    try simp only [Act.put, List.setIfInBounds_toArray, List.set_cons_zero, List.set_cons_succ]
    refine AnyE.take2 (i := 9) [] (oi := { dst := some 45, op := Go.Op.indexAddr 48 (Go.Operand.tmp 42) (Go.Operand.tmp 44), type := 0, pos := "ref.go:129", after := #[{ on := 6, ground := Go.Ground.data }, { on := 8, ground := Go.Ground.data }], guard := none }) (v := ?_) rfl (by kernel_rfl) (by kernel_rfl) (by kernel_rfl) (by kernel_rfl) (fun _ _ _ h => h) (Or.inl ⟨by rfl, ?_⟩) (by assumption) ?_
    rotate_left
    · (intro w0 hSw; (try dsimp only at hSw); go_split_ands; go_simp; with_reducible rfl)
    try simp only [Act.put, List.setIfInBounds_toArray, List.set_cons_zero, List.set_cons_succ]
    refine AnyE.take2 (i := 10) [] (oi := { dst := some 46, op := Go.Op.load 3 (Go.Operand.tmp 45), type := 3, pos := "ref.go:129", after := #[{ on := 9, ground := Go.Ground.data }], guard := none }) (v := ?_) rfl (by kernel_rfl) (by kernel_rfl) (by kernel_rfl) (by kernel_rfl) (fun _ _ _ h => h) (Or.inl ⟨by rfl, ?_⟩) (by assumption) ?_
    rotate_left
    · (intro w0 hSw; (try dsimp only at hSw); go_split_ands; go_simp; with_reducible rfl)
    try simp only [Act.put, List.setIfInBounds_toArray, List.set_cons_zero, List.set_cons_succ]
    refine AnyE.take2 (i := 11) [] (oi := { dst := some 47, op := Go.Op.move (Go.Operand.tmp 1), type := 48, pos := "ref.go:129", after := #[], guard := none }) (v := ?_) rfl (by kernel_rfl) (by kernel_rfl) (by kernel_rfl) (by kernel_rfl) (fun _ _ _ h => h) (Or.inl ⟨by rfl, ?_⟩) (by assumption) ?_
    rotate_left
    · (intro w0 hSw; (try dsimp only at hSw); go_split_ands; go_simp; with_reducible rfl)
    try simp only [Act.put, List.setIfInBounds_toArray, List.set_cons_zero, List.set_cons_succ]
    refine AnyE.take2 (i := 12) [] (oi := { dst := some 48, op := Go.Op.move (Go.Operand.tmp 6), type := 3, pos := "ref.go:129", after := #[], guard := none }) (v := ?_) rfl (by kernel_rfl) (by kernel_rfl) (by kernel_rfl) (by kernel_rfl) (fun _ _ _ h => h) (Or.inl ⟨by rfl, ?_⟩) (by assumption) ?_
    rotate_left
    · (intro w0 hSw; (try dsimp only at hSw); go_split_ands; go_simp; with_reducible rfl)
    try simp only [Act.put, List.setIfInBounds_toArray, List.set_cons_zero, List.set_cons_succ]
    refine AnyE.take2 (i := 13) [] (oi := { dst := some 49, op := Go.Op.binOp Go.BinOp.sub 3 (Go.Operand.tmp 48) (Go.Operand.const (Go.Value.int Go.IntKind.i64 2)) 3, type := 3, pos := "ref.go:129", after := #[{ on := 12, ground := Go.Ground.data }], guard := none }) (v := ?_) rfl (by kernel_rfl) (by kernel_rfl) (by kernel_rfl) (by kernel_rfl) (fun _ _ _ h => h) (Or.inl ⟨by rfl, ?_⟩) (by assumption) ?_
    rotate_left
    · (intro w0 hSw; (try dsimp only at hSw); go_split_ands; go_simp; with_reducible rfl)
    try simp only [Act.put, List.setIfInBounds_toArray, List.set_cons_zero, List.set_cons_succ]
    refine AnyE.take2 (i := 14) [] (oi := { dst := some 50, op := Go.Op.indexAddr 48 (Go.Operand.tmp 47) (Go.Operand.tmp 49), type := 0, pos := "ref.go:129", after := #[{ on := 11, ground := Go.Ground.data }, { on := 13, ground := Go.Ground.data }], guard := none }) (v := ?_) rfl (by kernel_rfl) (by kernel_rfl) (by kernel_rfl) (by kernel_rfl) (fun _ _ _ h => h) (Or.inl ⟨by rfl, ?_⟩) (by assumption) ?_
    rotate_left
    · (intro w0 hSw; (try dsimp only at hSw); go_split_ands; go_simp; with_reducible rfl)
    try simp only [Act.put, List.setIfInBounds_toArray, List.set_cons_zero, List.set_cons_succ]
    refine AnyE.take2 (i := 15) [] (oi := { dst := some 51, op := Go.Op.load 3 (Go.Operand.tmp 50), type := 3, pos := "ref.go:129", after := #[{ on := 14, ground := Go.Ground.data }], guard := none }) (v := ?_) rfl (by kernel_rfl) (by kernel_rfl) (by kernel_rfl) (by kernel_rfl) (fun _ _ _ h => h) (Or.inl ⟨by rfl, ?_⟩) (by assumption) ?_
    rotate_left
    · (intro w0 hSw; (try dsimp only at hSw); go_split_ands; go_simp; with_reducible rfl)
    try simp only [Act.put, List.setIfInBounds_toArray, List.set_cons_zero, List.set_cons_succ]
    have HB : Hid (Below w.heap.size w w.drew) := Lib.hid (Below.refl _ _).drew
    generalize w.drew = u0 at hHeld HB ⊢
    refine AnyE.ready (rs := [0, 16]) (by kernel_rfl) (by simp) ?_
    refine (AllE.cons (o := { dst := some 36, op := Go.Op.buildSlice 48 0 #[], type := 48, pos := "ref.go:129", after := #[], guard := none }) rfl (fun KK hKK => ?_) (AllE.cons (o := { dst := some 52, op := Go.Op.buildSlice 48 2 #[(0, Go.Operand.tmp 46), (1, Go.Operand.tmp 51)], type := 48, pos := "ref.go:129", after := #[{ on := 10, ground := Go.Ground.data }, { on := 15, ground := Go.Ground.data }], guard := none }) rfl (fun KK hKK => ?_) AllE.nil))
    · go_simp
      have HO : Hid (OwX w (u0.alloc (.cells #[] 3)) (u0.heap.size) 0 (.slice (some ⟨u0.heap.size, 0, none⟩) 0 0) []) := Lib.hid (OwX.newg (u0.heap.size) rfl HB.out)
      replace HB : Hid (Below w.heap.size w (u0.alloc (.cells #[] 3))) := Lib.hid (HB.out.alloc HB.out.size _)
      refine hKK.out _ _ ⟨HB.out, HX.out _ HB.out⟩ (fun hHeld => ?_)
      clear hKK KK
      try simp only [Act.put, List.setIfInBounds_toArray, List.set_cons_zero, List.set_cons_succ]
      refine AnyE.ready (rs := [5, 16]) (by kernel_rfl) (by simp) ?_
      refine (AllE.cons (o := { dst := some 41, op := Go.Op.call { callee := Go.Callee.builtin Go.Builtin.append, args := #[Go.Operand.tmp 36, Go.Operand.tmp 40], argTypes := #[48, 48] }, type := 48, pos := "ref.go:129", after := #[{ on := 0, ground := Go.Ground.data }, { on := 4, ground := Go.Ground.data }], guard := none }) rfl (fun KK hKK => ?_) (AllE.cons (o := { dst := some 52, op := Go.Op.buildSlice 48 2 #[(0, Go.Operand.tmp 46), (1, Go.Operand.tmp 51)], type := 48, pos := "ref.go:129", after := #[{ on := 10, ground := Go.Ground.data }, { on := 15, ground := Go.Ground.data }], guard := none }) rfl (fun KK hKK => ?_) AllE.nil))
      · obtain ⟨v1, u1, hr1, ho1, hb1, hp1⟩ := HO.out.app (HId.out _ HB.out) (hlt) (by omega) sc
        refine step_append_run rfl _ _ _ rfl _ _ _ _ rfl (by rfl) hr1 ?_
        clear hr1
        replace HB : Hid (Below w.heap.size w u1) := Lib.hid (HB.out.trans (hb1.mono HO.out.b0))
        replace HO := Lib.hid ho1
        clear ho1 hb1 hp1
        refine hKK.out _ _ ⟨HB.out, HX.out _ HB.out⟩ (fun hHeld => ?_)
        clear hKK KK
        try simp only [Act.put, List.setIfInBounds_toArray, List.set_cons_zero, List.set_cons_succ]
        refine AnyE.ready (rs := [16]) (by kernel_rfl) (by simp) ?_
        refine (AllE.cons (o := { dst := some 52, op := Go.Op.buildSlice 48 2 #[(0, Go.Operand.tmp 46), (1, Go.Operand.tmp 51)], type := 48, pos := "ref.go:129", after := #[{ on := 10, ground := Go.Ground.data }, { on := 15, ground := Go.Ground.data }], guard := none }) rfl (fun KK hKK => ?_) AllE.nil)
        go_simp
        have HP : Hid (Pend (u1.alloc (.cells #[.int .i64 x, .int .i64 y] 3)) v1 (some ⟨u1.heap.size, 0, none⟩) [x, y]) := Lib.hid (Pend.newg (u1.heap.size) rfl HO.out [x, y])
        replace HO : Hid (OwX w (u1.alloc (.cells #[.int .i64 x, .int .i64 y] 3)) _ _ v1 _) := Lib.hid (HO.out.alloc _)
        replace HB : Hid (Below w.heap.size w (u1.alloc (.cells #[.int .i64 x, .int .i64 y] 3))) := Lib.hid (HB.out.alloc HB.out.size _)
        refine hKK.out _ _ ⟨HB.out, HX.out _ HB.out⟩ (fun hHeld => ?_)
        clear hKK KK
        try simp only [Act.put, List.setIfInBounds_toArray, List.set_cons_zero, List.set_cons_succ]
        refine AnyE.ready (rs := [17]) (by kernel_rfl) (by simp) ?_
        refine AllE.cons (o := { dst := some 53, op := Go.Op.call { callee := Go.Callee.builtin Go.Builtin.append, args := #[Go.Operand.tmp 41, Go.Operand.tmp 52], argTypes := #[48, 48] }, type := 48, pos := "ref.go:129", after := #[{ on := 5, ground := Go.Ground.data }, { on := 16, ground := Go.Ground.data }, { on := 5, ground := Go.Ground.chain }], guard := none }) rfl (fun KK hKK => ?_) AllE.nil
        obtain ⟨v2, u2, hr2, ho2, hb2, _⟩ := HO.out.app HP.out.1 rfl (by simp only [List.length_cons, List.length_nil]; omega) 2
        refine step_append_run rfl _ _ _ rfl _ _ _ _ rfl (by rfl) hr2 ?_
        clear hr2
        replace HB : Hid (Below w.heap.size w u2) := Lib.hid (HB.out.trans (hb2.mono HO.out.b0))
        replace HO := Lib.hid ho2
        clear ho2 hb2
        refine hKK.out _ _ ⟨HB.out, HX.out _ HB.out⟩ (fun hHeld => ?_)
        clear hKK KK
        try simp only [Act.put, List.setIfInBounds_toArray, List.set_cons_zero, List.set_cons_succ]
        refine AnyE.take2 (i := 18) [] (oi := { dst := some 4, op := Go.Op.assign (Go.Operand.tmp 53), type := 48, pos := "ref.go:129", after := #[{ on := 17, ground := Go.Ground.data }, { on := 17, ground := Go.Ground.chain }, { on := 0, ground := Go.Ground.phase }, { on := 1, ground := Go.Ground.phase }, { on := 2, ground := Go.Ground.phase }, { on := 3, ground := Go.Ground.phase }, { on := 4, ground := Go.Ground.phase }, { on := 5, ground := Go.Ground.phase }, { on := 6, ground := Go.Ground.phase }, { on := 7, ground := Go.Ground.phase }, { on := 8, ground := Go.Ground.phase }, { on := 9, ground := Go.Ground.phase }, { on := 10, ground := Go.Ground.phase }, { on := 11, ground := Go.Ground.phase }, { on := 12, ground := Go.Ground.phase }, { on := 13, ground := Go.Ground.phase }, { on := 14, ground := Go.Ground.phase }, { on := 15, ground := Go.Ground.phase }, { on := 16, ground := Go.Ground.phase }, { on := 17, ground := Go.Ground.phase }], guard := none }) (v := ?_) rfl (by kernel_rfl) (by kernel_rfl) (by kernel_rfl) (by kernel_rfl) (fun _ _ _ h => h) (Or.inl ⟨by rfl, ?_⟩) (by assumption) ?_
        rotate_left
        · (intro w0 hSw; (try dsimp only at hSw); go_split_ands; go_simp; with_reducible rfl)
        try simp only [Act.put, List.setIfInBounds_toArray, List.set_cons_zero, List.set_cons_succ]
        refine AnyE.ready (rs := [19]) (by kernel_rfl) (by simp) ?_
        refine AllE.last (o := { dst := some 5, op := Go.Op.assign (Go.Operand.const (Go.Value.int Go.IntKind.i64 0)), type := 3, pos := "ref.go:129", after := #[{ on := 18, ground := Go.Ground.chain }, { on := 0, ground := Go.Ground.phase }, { on := 1, ground := Go.Ground.phase }, { on := 2, ground := Go.Ground.phase }, { on := 3, ground := Go.Ground.phase }, { on := 4, ground := Go.Ground.phase }, { on := 5, ground := Go.Ground.phase }, { on := 6, ground := Go.Ground.phase }, { on := 7, ground := Go.Ground.phase }, { on := 8, ground := Go.Ground.phase }, { on := 9, ground := Go.Ground.phase }, { on := 10, ground := Go.Ground.phase }, { on := 11, ground := Go.Ground.phase }, { on := 12, ground := Go.Ground.phase }, { on := 13, ground := Go.Ground.phase }, { on := 14, ground := Go.Ground.phase }, { on := 15, ground := Go.Ground.phase }, { on := 16, ground := Go.Ground.phase }, { on := 17, ground := Go.Ground.phase }, { on := 18, ground := Go.Ground.phase }], guard := none }) rfl (by kernel_rfl) (fun KK hKK => ?_)
        go_simp
        refine hKK.out _ _ ?_
        clear hKK KK
        try simp only [Act.put, List.setIfInBounds_toArray, List.set_cons_zero, List.set_cons_succ]
        go_wp2
        exact HR.out _ _ (HO.out.any HB.out (by simp [HN.out]))
      · go_simp
        have HP : Hid (Pend ((u0.alloc (.cells #[] 3)).alloc (.cells #[.int .i64 x, .int .i64 y] 3)) (.slice (some ⟨u0.heap.size, 0, none⟩) 0 0) (some ⟨u0.heap.size + 1, 0, none⟩) [x, y]) := Lib.hid (Pend.newg (u0.heap.size + 1) (by simp only [World.size_alloc]) HO.out [x, y])
        replace HO : Hid (OwX w ((u0.alloc (.cells #[] 3)).alloc (.cells #[.int .i64 x, .int .i64 y] 3)) _ 0 (.slice (some ⟨u0.heap.size, 0, none⟩) 0 0) []) := Lib.hid (HO.out.alloc _)
        replace HB : Hid (Below w.heap.size w ((u0.alloc (.cells #[] 3)).alloc (.cells #[.int .i64 x, .int .i64 y] 3))) := Lib.hid (HB.out.alloc HB.out.size _)
        refine hKK.out _ _ ⟨HB.out, HX.out _ HB.out⟩ (fun hHeld => ?_)
        clear hKK KK
        try simp only [Act.put, List.setIfInBounds_toArray, List.set_cons_zero, List.set_cons_succ]
        refine AnyE.ready (rs := [5]) (by kernel_rfl) (by simp) ?_
        refine (AllE.cons (o := { dst := some 41, op := Go.Op.call { callee := Go.Callee.builtin Go.Builtin.append, args := #[Go.Operand.tmp 36, Go.Operand.tmp 40], argTypes := #[48, 48] }, type := 48, pos := "ref.go:129", after := #[{ on := 0, ground := Go.Ground.data }, { on := 4, ground := Go.Ground.data }], guard := none }) rfl (fun KK hKK => ?_) AllE.nil)
        obtain ⟨v1, u1, hr1, ho1, hb1, hp1⟩ := HO.out.app (HId.out _ HB.out) (hlt) (by omega) sc
        refine step_append_run rfl _ _ _ rfl _ _ _ _ rfl (by rfl) hr1 ?_
        clear hr1
        replace HB : Hid (Below w.heap.size w u1) := Lib.hid (HB.out.trans (hb1.mono HO.out.b0))
        replace HP : Hid (Pend u1 v1 (some ⟨u0.heap.size + 1, 0, none⟩) [x, y]) := Lib.hid (hp1 _ _ HP.out (by simp))
        replace HO := Lib.hid ho1
        clear ho1 hb1 hp1
        refine hKK.out _ _ ⟨HB.out, HX.out _ HB.out⟩ (fun hHeld => ?_)
        clear hKK KK
        try simp only [Act.put, List.setIfInBounds_toArray, List.set_cons_zero, List.set_cons_succ]
        refine AnyE.ready (rs := [17]) (by kernel_rfl) (by simp) ?_
        refine AllE.cons (o := { dst := some 53, op := Go.Op.call { callee := Go.Callee.builtin Go.Builtin.append, args := #[Go.Operand.tmp 41, Go.Operand.tmp 52], argTypes := #[48, 48] }, type := 48, pos := "ref.go:129", after := #[{ on := 5, ground := Go.Ground.data }, { on := 16, ground := Go.Ground.data }, { on := 5, ground := Go.Ground.chain }], guard := none }) rfl (fun KK hKK => ?_) AllE.nil
        obtain ⟨v2, u2, hr2, ho2, hb2, _⟩ := HO.out.app HP.out.1 rfl (by simp only [List.length_cons, List.length_nil]; omega) 2
        refine step_append_run rfl _ _ _ rfl _ _ _ _ rfl (by rfl) hr2 ?_
        clear hr2
        replace HB : Hid (Below w.heap.size w u2) := Lib.hid (HB.out.trans (hb2.mono HO.out.b0))
        replace HO := Lib.hid ho2
        clear ho2 hb2
        refine hKK.out _ _ ⟨HB.out, HX.out _ HB.out⟩ (fun hHeld => ?_)
        clear hKK KK
        try simp only [Act.put, List.setIfInBounds_toArray, List.set_cons_zero, List.set_cons_succ]
        refine AnyE.take2 (i := 18) [] (oi := { dst := some 4, op := Go.Op.assign (Go.Operand.tmp 53), type := 48, pos := "ref.go:129", after := #[{ on := 17, ground := Go.Ground.data }, { on := 17, ground := Go.Ground.chain }, { on := 0, ground := Go.Ground.phase }, { on := 1, ground := Go.Ground.phase }, { on := 2, ground := Go.Ground.phase }, { on := 3, ground := Go.Ground.phase }, { on := 4, ground := Go.Ground.phase }, { on := 5, ground := Go.Ground.phase }, { on := 6, ground := Go.Ground.phase }, { on := 7, ground := Go.Ground.phase }, { on := 8, ground := Go.Ground.phase }, { on := 9, ground := Go.Ground.phase }, { on := 10, ground := Go.Ground.phase }, { on := 11, ground := Go.Ground.phase }, { on := 12, ground := Go.Ground.phase }, { on := 13, ground := Go.Ground.phase }, { on := 14, ground := Go.Ground.phase }, { on := 15, ground := Go.Ground.phase }, { on := 16, ground := Go.Ground.phase }, { on := 17, ground := Go.Ground.phase }], guard := none }) (v := ?_) rfl (by kernel_rfl) (by kernel_rfl) (by kernel_rfl) (by kernel_rfl) (fun _ _ _ h => h) (Or.inl ⟨by rfl, ?_⟩) (by assumption) ?_
        rotate_left
        · (intro w0 hSw; (try dsimp only at hSw); go_split_ands; go_simp; with_reducible rfl)
        try simp only [Act.put, List.setIfInBounds_toArray, List.set_cons_zero, List.set_cons_succ]
        refine AnyE.ready (rs := [19]) (by kernel_rfl) (by simp) ?_
        refine AllE.last (o := { dst := some 5, op := Go.Op.assign (Go.Operand.const (Go.Value.int Go.IntKind.i64 0)), type := 3, pos := "ref.go:129", after := #[{ on := 18, ground := Go.Ground.chain }, { on := 0, ground := Go.Ground.phase }, { on := 1, ground := Go.Ground.phase }, { on := 2, ground := Go.Ground.phase }, { on := 3, ground := Go.Ground.phase }, { on := 4, ground := Go.Ground.phase }, { on := 5, ground := Go.Ground.phase }, { on := 6, ground := Go.Ground.phase }, { on := 7, ground := Go.Ground.phase }, { on := 8, ground := Go.Ground.phase }, { on := 9, ground := Go.Ground.phase }, { on := 10, ground := Go.Ground.phase }, { on := 11, ground := Go.Ground.phase }, { on := 12, ground := Go.Ground.phase }, { on := 13, ground := Go.Ground.phase }, { on := 14, ground := Go.Ground.phase }, { on := 15, ground := Go.Ground.phase }, { on := 16, ground := Go.Ground.phase }, { on := 17, ground := Go.Ground.phase }, { on := 18, ground := Go.Ground.phase }], guard := none }) rfl (by kernel_rfl) (fun KK hKK => ?_)
        go_simp
        refine hKK.out _ _ ?_
        clear hKK KK
        try simp only [Act.put, List.setIfInBounds_toArray, List.set_cons_zero, List.set_cons_succ]
        go_wp2
        exact HR.out _ _ (HO.out.any HB.out (by simp [HN.out]))
    · go_simp
      have HP : Hid (Ints (u0.alloc (.cells #[.int .i64 x, .int .i64 y] 3)) (some ⟨u0.heap.size, 0, none⟩) [x, y]) := Lib.hid (Ints.newg [x, y] u0 (u0.heap.size) rfl)
      replace HB : Hid (Below w.heap.size w (u0.alloc (.cells #[.int .i64 x, .int .i64 y] 3))) := Lib.hid (HB.out.alloc HB.out.size _)
      refine hKK.out _ _ ⟨HB.out, HX.out _ HB.out⟩ (fun hHeld => ?_)
      clear hKK KK
      try simp only [Act.put, List.setIfInBounds_toArray, List.set_cons_zero, List.set_cons_succ]
      refine AnyE.ready (rs := [0]) (by kernel_rfl) (by simp) ?_
      refine (AllE.cons (o := { dst := some 36, op := Go.Op.buildSlice 48 0 #[], type := 48, pos := "ref.go:129", after := #[], guard := none }) rfl (fun KK hKK => ?_) AllE.nil)
      go_simp
      have HO : Hid (OwX w ((u0.alloc (.cells #[.int .i64 x, .int .i64 y] 3)).alloc (.cells #[] 3)) (u0.heap.size + 1) 0 (.slice (some ⟨u0.heap.size + 1, 0, none⟩) 0 0) []) := Lib.hid (OwX.newg (u0.heap.size + 1) (by simp only [World.size_alloc]) HB.out)
      replace HP : Hid (Pend ((u0.alloc (.cells #[.int .i64 x, .int .i64 y] 3)).alloc (.cells #[] 3)) (.slice (some ⟨u0.heap.size + 1, 0, none⟩) 0 0) (some ⟨u0.heap.size, 0, none⟩) [x, y]) := Lib.hid (Pend.owng (u0.heap.size + 1) (by simp only [World.size_alloc]) HP.out (by simp))
      replace HB : Hid (Below w.heap.size w ((u0.alloc (.cells #[.int .i64 x, .int .i64 y] 3)).alloc (.cells #[] 3))) := Lib.hid (HB.out.alloc HB.out.size _)
      refine hKK.out _ _ ⟨HB.out, HX.out _ HB.out⟩ (fun hHeld => ?_)
      clear hKK KK
      try simp only [Act.put, List.setIfInBounds_toArray, List.set_cons_zero, List.set_cons_succ]
      refine AnyE.ready (rs := [5]) (by kernel_rfl) (by simp) ?_
      refine (AllE.cons (o := { dst := some 41, op := Go.Op.call { callee := Go.Callee.builtin Go.Builtin.append, args := #[Go.Operand.tmp 36, Go.Operand.tmp 40], argTypes := #[48, 48] }, type := 48, pos := "ref.go:129", after := #[{ on := 0, ground := Go.Ground.data }, { on := 4, ground := Go.Ground.data }], guard := none }) rfl (fun KK hKK => ?_) AllE.nil)
      obtain ⟨v1, u1, hr1, ho1, hb1, hp1⟩ := HO.out.app (HId.out _ HB.out) (hlt) (by omega) sc
      refine step_append_run rfl _ _ _ rfl _ _ _ _ rfl (by rfl) hr1 ?_
      clear hr1
      replace HB : Hid (Below w.heap.size w u1) := Lib.hid (HB.out.trans (hb1.mono HO.out.b0))
      replace HP : Hid (Pend u1 v1 (some ⟨u0.heap.size, 0, none⟩) [x, y]) := Lib.hid (hp1 _ _ HP.out (by simp))
      replace HO := Lib.hid ho1
      clear ho1 hb1 hp1
      refine hKK.out _ _ ⟨HB.out, HX.out _ HB.out⟩ (fun hHeld => ?_)
      clear hKK KK
      try simp only [Act.put, List.setIfInBounds_toArray, List.set_cons_zero, List.set_cons_succ]
      refine AnyE.ready (rs := [17]) (by kernel_rfl) (by simp) ?_
      refine AllE.cons (o := { dst := some 53, op := Go.Op.call { callee := Go.Callee.builtin Go.Builtin.append, args := #[Go.Operand.tmp 41, Go.Operand.tmp 52], argTypes := #[48, 48] }, type := 48, pos := "ref.go:129", after := #[{ on := 5, ground := Go.Ground.data }, { on := 16, ground := Go.Ground.data }, { on := 5, ground := Go.Ground.chain }], guard := none }) rfl (fun KK hKK => ?_) AllE.nil
      obtain ⟨v2, u2, hr2, ho2, hb2, _⟩ := HO.out.app HP.out.1 rfl (by simp only [List.length_cons, List.length_nil]; omega) 2
      refine step_append_run rfl _ _ _ rfl _ _ _ _ rfl (by rfl) hr2 ?_
      clear hr2
      replace HB : Hid (Below w.heap.size w u2) := Lib.hid (HB.out.trans (hb2.mono HO.out.b0))
      replace HO := Lib.hid ho2
      clear ho2 hb2
      refine hKK.out _ _ ⟨HB.out, HX.out _ HB.out⟩ (fun hHeld => ?_)
      clear hKK KK
      try simp only [Act.put, List.setIfInBounds_toArray, List.set_cons_zero, List.set_cons_succ]
      refine AnyE.take2 (i := 18) [] (oi := { dst := some 4, op := Go.Op.assign (Go.Operand.tmp 53), type := 48, pos := "ref.go:129", after := #[{ on := 17, ground := Go.Ground.data }, { on := 17, ground := Go.Ground.chain }, { on := 0, ground := Go.Ground.phase }, { on := 1, ground := Go.Ground.phase }, { on := 2, ground := Go.Ground.phase }, { on := 3, ground := Go.Ground.phase }, { on := 4, ground := Go.Ground.phase }, { on := 5, ground := Go.Ground.phase }, { on := 6, ground := Go.Ground.phase }, { on := 7, ground := Go.Ground.phase }, { on := 8, ground := Go.Ground.phase }, { on := 9, ground := Go.Ground.phase }, { on := 10, ground := Go.Ground.phase }, { on := 11, ground := Go.Ground.phase }, { on := 12, ground := Go.Ground.phase }, { on := 13, ground := Go.Ground.phase }, { on := 14, ground := Go.Ground.phase }, { on := 15, ground := Go.Ground.phase }, { on := 16, ground := Go.Ground.phase }, { on := 17, ground := Go.Ground.phase }], guard := none }) (v := ?_) rfl (by kernel_rfl) (by kernel_rfl) (by kernel_rfl) (by kernel_rfl) (fun _ _ _ h => h) (Or.inl ⟨by rfl, ?_⟩) (by assumption) ?_
      rotate_left
      · (intro w0 hSw; (try dsimp only at hSw); go_split_ands; go_simp; with_reducible rfl)
      try simp only [Act.put, List.setIfInBounds_toArray, List.set_cons_zero, List.set_cons_succ]
      refine AnyE.ready (rs := [19]) (by kernel_rfl) (by simp) ?_
      refine AllE.last (o := { dst := some 5, op := Go.Op.assign (Go.Operand.const (Go.Value.int Go.IntKind.i64 0)), type := 3, pos := "ref.go:129", after := #[{ on := 18, ground := Go.Ground.chain }, { on := 0, ground := Go.Ground.phase }, { on := 1, ground := Go.Ground.phase }, { on := 2, ground := Go.Ground.phase }, { on := 3, ground := Go.Ground.phase }, { on := 4, ground := Go.Ground.phase }, { on := 5, ground := Go.Ground.phase }, { on := 6, ground := Go.Ground.phase }, { on := 7, ground := Go.Ground.phase }, { on := 8, ground := Go.Ground.phase }, { on := 9, ground := Go.Ground.phase }, { on := 10, ground := Go.Ground.phase }, { on := 11, ground := Go.Ground.phase }, { on := 12, ground := Go.Ground.phase }, { on := 13, ground := Go.Ground.phase }, { on := 14, ground := Go.Ground.phase }, { on := 15, ground := Go.Ground.phase }, { on := 16, ground := Go.Ground.phase }, { on := 17, ground := Go.Ground.phase }, { on := 18, ground := Go.Ground.phase }], guard := none }) rfl (by kernel_rfl) (fun KK hKK => ?_)
      go_simp
      refine hKK.out _ _ ?_
      clear hKK KK
      try simp only [Act.put, List.setIfInBounds_toArray, List.set_cons_zero, List.set_cons_succ]
      go_wp2
      exact HR.out _ _ (HO.out.any HB.out (by simp [HN.out]))
end Go.Proofs.Ytpiafgmncfibmaa.Vf
