import Derived.Test.YtpjfjdncdiemlaaRows
import Derived.WalkKit
import Derived.ProofKit
import Derived.OpenShut
import Derived.Deep.QuietTactic
import Derived.BigQuiet
import Derived.Outline
import Derived.WalkSmall
import Derived.WalkLawsBesides
import Derived.WalkSpells
import Derived.BigGuardPart
import Derived.RegionTactic
import Derived.Deep.RegionHeld3
import Derived.Lib.Hide
import Derived.Deep.OwnRows
import Derived.Maps.AppendAt
import Derived.Deep.AppendLies
import Derived.Below
import Derived.Test.YtpjfjdncdiemlaaPcL
import Derived.Stop.Asserts
namespace Go.Proofs.Ytpjfjdncdiemlaa
open Go.ChangeShapes Go.WideShapes Go.ChangeAt Go.RowKit
set_option linter.unusedVariables false
theorem sf (w : World) (a b : Addr) (u : Value) (h : a ≠ b) : (w.setCell a u).cell? b = w.cell? b := World.cell?_setCell_other (h := h) ..
def pieceV (m a : Int) (g len cp : Nat) (st : Int) : Value := .agg #[.int .i64 m, .int .u64 a, .slice (some ⟨g, 0, none⟩) len cp, .int .i64 st]
def TwinP (len : Nat) (m a st : Int) (F : Nat → Nat) (w : World) (e : Ending) (w' : World) : Prop := ∃ g cp, e = .returned (pieceV m a g len cp st) ∧ w.heap.size ≤ g ∧ g < w'.heap.size ∧ WdAt w' g len F ∧ (∀ p, w'.frozen? ⟨g, p, none⟩ = false) ∧ Below w.heap.size w w'
set_option maxRecDepth 100000 in
set_option maxHeartbeats 2000000 in
theorem twin_c (gb len wcap : Nat) (m a st f r : Int) (F : Nat → Nat) (w : World) (l1 : 1 ≤ len) (l2 : len ≤ 70000) (hg : gb < w.heap.size) (HW : Hid (WdAt w gb len F)) :
    Calls Try.prog 47 #[.agg #[.int .i64 m, .int .u64 a, .slice (some ⟨gb, 0, none⟩) len wcap, .int .i64 st, .int .i64 f, .int .i64 r]] w (TwinP len m a st F w) := by
  go_enter Try.func47, Try.ntmps47
  go_wp2_with fail
  obtain ⟨tb, htb⟩ : ∃ tb, tb = w.heap.size := ⟨_, rfl⟩
  rw [← htb]
  have c : ∀ i, ((w.alloc (.cells #[.int .i64 m, .int .u64 a, .slice (some ⟨gb, 0, none⟩) len wcap, .int .i64 st, .int .i64 f, .int .i64 r] 91)).alloc (.cells #[.int .i64 0, .int .u64 0, .slice none 0 0, .int .i64 0] 59)).cell? ⟨tb, i, none⟩ = (#[Value.int .i64 m, .int .u64 a, .slice (some ⟨gb, 0, none⟩) len wcap, .int .i64 st, .int .i64 f, .int .i64 r] : Array Value)[i]? := fun i => (World.cell?_alloc_past _ _ _ (by simp; omega)).trans (World.cell?_alloc_at _ _ _ _ htb)
  have d : ∀ i, ((w.alloc (.cells #[.int .i64 m, .int .u64 a, .slice (some ⟨gb, 0, none⟩) len wcap, .int .i64 st, .int .i64 f, .int .i64 r] 91)).alloc (.cells #[.int .i64 0, .int .u64 0, .slice none 0 0, .int .i64 0] 59)).cell? ⟨tb + 1, i, none⟩ = (#[Value.int .i64 0, .int .u64 0, .slice none 0 0, .int .i64 0] : Array Value)[i]? := fun i => World.cell?_alloc_at _ _ _ _ (by simp [htb])
  have df : ∀ b i, tb ≤ b → b ≤ tb + 1 → ((w.alloc (.cells #[.int .i64 m, .int .u64 a, .slice (some ⟨gb, 0, none⟩) len wcap, .int .i64 st, .int .i64 f, .int .i64 r] 91)).alloc (.cells #[.int .i64 0, .int .u64 0, .slice none 0 0, .int .i64 0] 59)).frozen? ⟨b, i, none⟩ = false := fun b i h1 h2 => by
    rcases Nat.eq_or_lt_of_le h1 with rfl | h3
    · exact (World.frozen?_alloc_past _ _ _ (by simp; omega)).trans (World.frozen?_alloc_at _ _ _ _ htb)
    · exact World.frozen?_alloc_at _ _ _ _ (by simp; omega)
  have hsz : ((w.alloc (.cells #[.int .i64 m, .int .u64 a, .slice (some ⟨gb, 0, none⟩) len wcap, .int .i64 st, .int .i64 f, .int .i64 r] 91)).alloc (.cells #[.int .i64 0, .int .u64 0, .slice none 0 0, .int .i64 0] 59)).heap.size = tb + 2 := by simp [htb]
  have HB0 : Hid (Below w.heap.size w ((w.alloc (.cells #[.int .i64 m, .int .u64 a, .slice (some ⟨gb, 0, none⟩) len wcap, .int .i64 st, .int .i64 f, .int .i64 r] 91)).alloc (.cells #[.int .i64 0, .int .u64 0, .slice none 0 0, .int .i64 0] 59))) := Lib.hid (((Below.refl _ _).alloc (Nat.le_refl _) _).alloc (by simp) _)
  have HS := Lib.hid hsz
  clear hsz
  generalize (w.alloc (.cells #[.int .i64 m, .int .u64 a, .slice (some ⟨gb, 0, none⟩) len wcap, .int .i64 st, .int .i64 f, .int .i64 r] 91)).alloc (.cells #[.int .i64 0, .int .u64 0, .slice none 0 0, .int .i64 0] 59) = w1 at *
  refine (clone_w gb len wcap F _ l1 l2 (by have := HS.out; omega) (Lib.hid (fun p hp => (HB0.out.cell (p := ⟨gb, p, none⟩) hg).trans (HW.out p hp)))).mono ?_
  rintro e w2 ⟨g, cp, rfl, hg1, hg2, hg3, hw, hf, hb⟩
  have e0 := (hb.cell (p := ⟨tb, 0, none⟩) (by have := HS.out; show tb < _; omega)).trans (c 0)
  have e1 := (hb.cell (p := ⟨tb, 1, none⟩) (by have := HS.out; show tb < _; omega)).trans (c 1)
  have e2 := (hb.cell (p := ⟨tb, 2, none⟩) (by have := HS.out; show tb < _; omega)).trans (c 2)
  have e3 := (hb.cell (p := ⟨tb, 3, none⟩) (by have := HS.out; show tb < _; omega)).trans (c 3)
  have p0 := (hb.cell (p := ⟨tb + 1, 0, none⟩) (by have := HS.out; show tb + 1 < _; omega)).trans (d 0)
  have p1 := (hb.cell (p := ⟨tb + 1, 1, none⟩) (by have := HS.out; show tb + 1 < _; omega)).trans (d 1)
  have p2 := (hb.cell (p := ⟨tb + 1, 2, none⟩) (by have := HS.out; show tb + 1 < _; omega)).trans (d 2)
  have p3 := (hb.cell (p := ⟨tb + 1, 3, none⟩) (by have := HS.out; show tb + 1 < _; omega)).trans (d 3)
  have f0 := (hb.frozen (p := ⟨tb + 1, 0, none⟩) (by have := HS.out; show tb + 1 < _; omega)).trans (df _ 0 (by omega) (by omega))
  have f1 := (hb.frozen (p := ⟨tb + 1, 1, none⟩) (by have := HS.out; show tb + 1 < _; omega)).trans (df _ 1 (by omega) (by omega))
  have f2 := (hb.frozen (p := ⟨tb + 1, 2, none⟩) (by have := HS.out; show tb + 1 < _; omega)).trans (df _ 2 (by omega) (by omega))
  have f3 := (hb.frozen (p := ⟨tb + 1, 3, none⟩) (by have := HS.out; show tb + 1 < _; omega)).trans (df _ 3 (by omega) (by omega))
  have g2 := (hb.frozen (p := ⟨tb, 2, none⟩) (by have := HS.out; show tb < _; omega)).trans (df _ 2 (by omega) (by omega))
  have HB2 := Lib.hid (HB0.out.trans (hb.mono (by have := HS.out; omega)))
  have HW2 := Lib.hid hw
  have HF2 := Lib.hid hf
  have hgt : tb + 2 ≤ g := by have := HS.out; omega
  have htw : Hid (tb = w.heap.size) := Lib.hid htb
  clear c d df hb hw hf htb
  go_wp2
  have HBX : Hid (Below w.heap.size w (((((w2.setCell ⟨tb, 2, none⟩ (.slice (some ⟨g, 0, none⟩) len cp)).setCell ⟨tb + 1, 0, none⟩ (.int .i64 m)).setCell ⟨tb + 1, 1, none⟩ (.int .u64 a)).setCell ⟨tb + 1, 2, none⟩ (.slice (some ⟨g, 0, none⟩) len cp)).setCell ⟨tb + 1, 3, none⟩ (.int .i64 st))) := Lib.hid (((((HB2.out.setCell (by have := htw.out; show _ ≤ tb; omega) _).setCell (by have := htw.out; show _ ≤ tb + 1; omega) _).setCell (by have := htw.out; show _ ≤ tb + 1; omega) _).setCell (by have := htw.out; show _ ≤ tb + 1; omega) _).setCell (by have := htw.out; show _ ≤ tb + 1; omega) _)
  have HWX : Hid (WdAt (((((w2.setCell ⟨tb, 2, none⟩ (.slice (some ⟨g, 0, none⟩) len cp)).setCell ⟨tb + 1, 0, none⟩ (.int .i64 m)).setCell ⟨tb + 1, 1, none⟩ (.int .u64 a)).setCell ⟨tb + 1, 2, none⟩ (.slice (some ⟨g, 0, none⟩) len cp)).setCell ⟨tb + 1, 3, none⟩ (.int .i64 st)) g len F) := Lib.hid (fun p hp => (sf _ _ _ _ (by intro e; injection e with e1 _; omega)).trans ((sf _ _ _ _ (by intro e; injection e with e1 _; omega)).trans ((sf _ _ _ _ (by intro e; injection e with e1 _; omega)).trans ((sf _ _ _ _ (by intro e; injection e with e1 _; omega)).trans ((sf _ _ _ _ (by intro e; injection e with e1 _; omega)).trans (HW2.out p hp))))))
  have z0 : (((((w2.setCell ⟨tb, 2, none⟩ (.slice (some ⟨g, 0, none⟩) len cp)).setCell ⟨tb + 1, 0, none⟩ (.int .i64 m)).setCell ⟨tb + 1, 1, none⟩ (.int .u64 a)).setCell ⟨tb + 1, 2, none⟩ (.slice (some ⟨g, 0, none⟩) len cp)).setCell ⟨tb + 1, 3, none⟩ (.int .i64 st)).cell? ⟨tb + 1, 0, none⟩ = some (.int .i64 m) := ((sf _ _ _ _ (by simp)).trans ((sf _ _ _ _ (by simp)).trans ((sf _ _ _ _ (by simp)).trans (World.cell?_setCell_same _ _ _ ((sf _ _ _ _ (by simp)).trans p0)))))
  have z1 : (((((w2.setCell ⟨tb, 2, none⟩ (.slice (some ⟨g, 0, none⟩) len cp)).setCell ⟨tb + 1, 0, none⟩ (.int .i64 m)).setCell ⟨tb + 1, 1, none⟩ (.int .u64 a)).setCell ⟨tb + 1, 2, none⟩ (.slice (some ⟨g, 0, none⟩) len cp)).setCell ⟨tb + 1, 3, none⟩ (.int .i64 st)).cell? ⟨tb + 1, 1, none⟩ = some (.int .u64 a) := ((sf _ _ _ _ (by simp)).trans ((sf _ _ _ _ (by simp)).trans (World.cell?_setCell_same _ _ _ ((sf _ _ _ _ (by simp)).trans ((sf _ _ _ _ (by simp)).trans p1)))))
  have z2 : (((((w2.setCell ⟨tb, 2, none⟩ (.slice (some ⟨g, 0, none⟩) len cp)).setCell ⟨tb + 1, 0, none⟩ (.int .i64 m)).setCell ⟨tb + 1, 1, none⟩ (.int .u64 a)).setCell ⟨tb + 1, 2, none⟩ (.slice (some ⟨g, 0, none⟩) len cp)).setCell ⟨tb + 1, 3, none⟩ (.int .i64 st)).cell? ⟨tb + 1, 2, none⟩ = some (.slice (some ⟨g, 0, none⟩) len cp) := ((sf _ _ _ _ (by simp)).trans (World.cell?_setCell_same _ _ _ ((sf _ _ _ _ (by simp)).trans ((sf _ _ _ _ (by simp)).trans ((sf _ _ _ _ (by simp)).trans p2)))))
  have z3 : (((((w2.setCell ⟨tb, 2, none⟩ (.slice (some ⟨g, 0, none⟩) len cp)).setCell ⟨tb + 1, 0, none⟩ (.int .i64 m)).setCell ⟨tb + 1, 1, none⟩ (.int .u64 a)).setCell ⟨tb + 1, 2, none⟩ (.slice (some ⟨g, 0, none⟩) len cp)).setCell ⟨tb + 1, 3, none⟩ (.int .i64 st)).cell? ⟨tb + 1, 3, none⟩ = some (.int .i64 st) := (World.cell?_setCell_same _ _ _ ((sf _ _ _ _ (by simp)).trans ((sf _ _ _ _ (by simp)).trans ((sf _ _ _ _ (by simp)).trans ((sf _ _ _ _ (by simp)).trans p3)))))
  have hsx : (((((w2.setCell ⟨tb, 2, none⟩ (.slice (some ⟨g, 0, none⟩) len cp)).setCell ⟨tb + 1, 0, none⟩ (.int .i64 m)).setCell ⟨tb + 1, 1, none⟩ (.int .u64 a)).setCell ⟨tb + 1, 2, none⟩ (.slice (some ⟨g, 0, none⟩) len cp)).setCell ⟨tb + 1, 3, none⟩ (.int .i64 st)).heap.size = w2.heap.size := by simp [World.setCell]
  have HFX : Hid (∀ p, (((((w2.setCell ⟨tb, 2, none⟩ (.slice (some ⟨g, 0, none⟩) len cp)).setCell ⟨tb + 1, 0, none⟩ (.int .i64 m)).setCell ⟨tb + 1, 1, none⟩ (.int .u64 a)).setCell ⟨tb + 1, 2, none⟩ (.slice (some ⟨g, 0, none⟩) len cp)).setCell ⟨tb + 1, 3, none⟩ (.int .i64 st)).frozen? ⟨g, p, none⟩ = false) := Lib.hid (fun p => (World.frozen?_setCell _ _ _ _).trans ((World.frozen?_setCell _ _ _ _).trans ((World.frozen?_setCell _ _ _ _).trans ((World.frozen?_setCell _ _ _ _).trans ((World.frozen?_setCell _ _ _ _).trans (HF2.out p))))))
  generalize ((((w2.setCell ⟨tb, 2, none⟩ (.slice (some ⟨g, 0, none⟩) len cp)).setCell ⟨tb + 1, 0, none⟩ (.int .i64 m)).setCell ⟨tb + 1, 1, none⟩ (.int .u64 a)).setCell ⟨tb + 1, 2, none⟩ (.slice (some ⟨g, 0, none⟩) len cp)).setCell ⟨tb + 1, 3, none⟩ (.int .i64 st) = w9 at *
  clear e0 e1 e2 e3 p0 p1 p2 p3 f0 f1 f2 f3 g2
  refine bodyPost_ret (v := pieceV m a g len cp st) (by simp [results, Try.results47, go_sem, z0, z1, z2, z3, pieceV]) rfl ⟨g, cp, rfl, by have := htw.out; omega, by omega, HWX.out, HFX.out, HBX.out⟩
set_option maxRecDepth 100000 in
theorem noHear (v : Value) (xT : TypeId) (w : World) : (Instr.typeAssert (.iface 63 v) xT 110 true).run Try.prog w = .ok (.tuple #[.nilIface, .bool false]) w := run_typeAssert_lacksB Try.underlying110 (by kernel_rfl) (by kernel_rfl) v xT w
set_option maxRecDepth 100000 in
theorem hear_c (yb : Nat) (m a st : Int) (g len cp : Nat) (w : World) :
    Calls Try.prog 48 #[.iface 63 (.pointer (some ⟨yb, 0, none⟩)), pieceV m a g len cp st] w fun e w' => e = .returned (.tuple #[]) ∧ Below w.heap.size w w' := by
  have hnh := noHear (.pointer (some ⟨yb, 0, none⟩)) 95
  unfold pieceV
  go_enter Try.func48, Try.ntmps48
  go_wp2
  refine bodyPost_end (v := .tuple #[]) (by simp [results, Try.results48, go_sem]) rfl ⟨rfl, (Below.refl _ _).alloc (Nat.le_refl _) _⟩
def YesAt (w : World) (yb : Nat) (say : Bool) (k a n : Int) : Prop := yb < w.heap.size ∧ w.cell? ⟨yb, 0, none⟩ = some (.bool say) ∧ w.cell? ⟨yb, 1, none⟩ = some (.int .i64 k) ∧ w.cell? ⟨yb, 2, none⟩ = some (.int .u64 a) ∧ w.cell? ⟨yb, 3, none⟩ = some (.int .i64 n) ∧ w.frozen? ⟨yb, 1, none⟩ = false ∧ w.frozen? ⟨yb, 2, none⟩ = false ∧ w.frozen? ⟨yb, 3, none⟩ = false
theorem yes_step {w : World} {yb : Nat} {say : Bool} {k a0 n0 : Int} (k' a n : Int) (h : YesAt w yb say k a0 n0) : YesAt (((w.setCell ⟨yb, 1, none⟩ (.int .i64 k')).setCell ⟨yb, 2, none⟩ (.int .u64 a)).setCell ⟨yb, 3, none⟩ (.int .i64 n)) yb say k' a n := by
  obtain ⟨h0, y0, y1, y2, y3, f1, f2, f3⟩ := h
  refine ⟨by simpa [World.setCell] using h0, ?_, ?_, ?_, ?_, ?_, ?_, ?_⟩
  · exact (sf _ _ _ _ (by simp)).trans ((sf _ _ _ _ (by simp)).trans ((sf _ _ _ _ (by simp)).trans y0))
  · exact (sf _ _ _ _ (by simp)).trans ((sf _ _ _ _ (by simp)).trans (World.cell?_setCell_same _ _ _ y1))
  · exact (sf _ _ _ _ (by simp)).trans (World.cell?_setCell_same _ _ _ ((sf _ _ _ _ (by simp)).trans y2))
  · exact World.cell?_setCell_same _ _ _ ((sf _ _ _ _ (by simp)).trans ((sf _ _ _ _ (by simp)).trans y3))
  · exact (World.frozen?_setCell _ _ _ _).trans ((World.frozen?_setCell _ _ _ _).trans ((World.frozen?_setCell _ _ _ _).trans f1))
  · exact (World.frozen?_setCell _ _ _ _).trans ((World.frozen?_setCell _ _ _ _).trans ((World.frozen?_setCell _ _ _ _).trans f2))
  · exact (World.frozen?_setCell _ _ _ _).trans ((World.frozen?_setCell _ _ _ _).trans ((World.frozen?_setCell _ _ _ _).trans f3))
theorem yes_grown (w : World) (yb : Nat) (x y z : Value) : w.grownBy (((w.setCell ⟨yb, 1, none⟩ x).setCell ⟨yb, 2, none⟩ y).setCell ⟨yb, 3, none⟩ z) (some yb) := by
  refine ⟨rfl, rfl, rfl, by simp [World.setCell], fun k hk hne => ?_⟩
  have hk2 : k ≠ yb := fun e => hne (by rw [e])
  rw [Below.heap_setCell _ _ _ _ hk2, Below.heap_setCell _ _ _ _ hk2, Below.heap_setCell _ _ _ _ hk2]
def CheckP (yb : Nat) (say : Bool) (k a n : Int) (w : World) (e : Ending) (w' : World) : Prop := e = .returned (.bool say) ∧ YesAt w' yb say (k + 1) a n ∧ w.grownBy w' (some yb)
set_option maxRecDepth 100000 in
set_option maxHeartbeats 2000000 in
theorem check_c (yb : Nat) (say : Bool) (k a0 n0 a : Int) (wo : Option Addr) (len cp : Nat) (w : World) (hk : 0 ≤ k) (hk2 : k ≤ 100) (HY : Hid (YesAt w yb say k a0 n0)) :
    Calls Try.prog 111 #[.pointer (some ⟨yb, 0, none⟩), .int .u64 a, .slice wo len cp] w (CheckP yb say k a len w) := by
  obtain ⟨h0, y0, y1, y2, y3, f1, f2, f3⟩ := HY.out
  go_enter Try.func111, Try.ntmps111
  go_wp2
  refine bodyPost_ret (v := .bool say) (by simp [results, Try.results111, go_sem]) rfl ⟨rfl, yes_step _ _ _ HY.out, yes_grown _ _ _ _ _⟩
end Go.Proofs.Ytpjfjdncdiemlaa
