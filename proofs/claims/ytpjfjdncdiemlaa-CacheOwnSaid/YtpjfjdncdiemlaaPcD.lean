import Derived.Test.YtpjfjdncdiemlaaRows
import Derived.WalkKit
import Derived.ProofKit
import Derived.OpenShut
import Derived.Deep.QuietTactic
import Derived.BigQuiet
import Derived.Outline
import Derived.WalkSmall
import Derived.WalkLawsBesides
import Derived.WalkSpells
import Derived.BigGuardPart
import Derived.RegionTactic
import Derived.Deep.RegionHeld3
import Derived.Lib.Hide
import Derived.Deep.OwnRows
import Derived.Maps.AppendAt
import Derived.Deep.AppendLies
import Derived.Below
import Derived.Test.YtpjfjdncdiemlaaPcC
import Derived.Deep.RegionLaw
import Derived.Deep.RegionWith
namespace Go.Proofs.Ytpjfjdncdiemlaa
open Go.ChangeShapes Go.WideShapes Go.ChangeAt Go.RowKit
set_option linter.unusedVariables false
set_option maxRecDepth 100000 in
theorem nil_ahead (a : Addr) (w : World) : (nilAhead 232 63 (.pointer (some a)) "Check").run Try.prog w = .ok (some false) w := by kernel_rfl
set_option maxRecDepth 100000 in
theorem method_check (a : Addr) (w : World) : (method 232 63 (.pointer (some a)) "Check").run Try.prog w = .ok (111, .pointer (some a)) w := by kernel_rfl
def PieceP (len : Nat) (m a st : Int) (F : Nat → Nat) (w : World) (e : Ending) (w' : World) : Prop := ∃ g cp, e = .returned (.tuple #[pieceV m a g len cp st, .bool true]) ∧ w.heap.size ≤ g ∧ g < w'.heap.size ∧ WdAt w' g len F ∧ (∀ p, w'.frozen? ⟨g, p, none⟩ = false) ∧ Below w.heap.size w w'
set_option maxRecDepth 100000 in
set_option maxHeartbeats 2000000 in
theorem piece_c (cb pb n cap at0 gb len wcap : Nat) (wd tk m a st f r : Int) (F : Nat → Nat) (w : World) (hn : n ≤ 1000) (l1 : 1 ≤ len) (l2 : len ≤ 70000) (hg : gb < w.heap.size) (HW : Hid (WdAt w gb len F)) (HC : Hid (PcAt w cb pb n cap at0 wd tk m a (some ⟨gb, 0, none⟩) len wcap st f r)) :
    Calls Try.prog 28 #[.pointer (some ⟨cb, 0, none⟩), .int .i64 m] w (PieceP len m a st F w) := by
  go_enter Try.func28, Try.ntmps28
  go_wp2_with fail
  obtain ⟨tb, htb⟩ : ∃ tb, tb = w.heap.size := ⟨_, rfl⟩
  rw [← htb]
  have c : ∀ i, (w.alloc (.cells #[.int .i64 0, .int .u64 0, .slice none 0 0, .int .i64 0] 59)).cell? ⟨tb, i, none⟩ = (#[Value.int .i64 0, .int .u64 0, .slice none 0 0, .int .i64 0] : Array Value)[i]? := fun i => World.cell?_alloc_at _ _ _ _ htb
  have cf : ∀ i, (w.alloc (.cells #[.int .i64 0, .int .u64 0, .slice none 0 0, .int .i64 0] 59)).frozen? ⟨tb, i, none⟩ = false := fun i => World.frozen?_alloc_at _ _ _ _ htb
  have HB0 : Hid (Below w.heap.size w (w.alloc (.cells #[.int .i64 0, .int .u64 0, .slice none 0 0, .int .i64 0] 59))) := Lib.hid ((Below.refl _ _).alloc (Nat.le_refl _) _)
  have HC1 := Lib.hid (HC.out.below HB0.out)
  have HS : Hid ((w.alloc (.cells #[.int .i64 0, .int .u64 0, .slice none 0 0, .int .i64 0] 59)).heap.size = tb + 1) := Lib.hid (by simp [htb])
  have HT := Lib.hid htb
  clear htb
  generalize w.alloc (.cells #[.int .i64 0, .int .u64 0, .slice none 0 0, .int .i64 0] 59) = w1 at *
  refine (find0 cb pb n cap at0 wd tk m a _ _ _ _ f r _ hn HC1).mono ?_
  rintro e w2 ⟨rfl, hb⟩
  have HB2 := Lib.hid hb
  have HC2 := Lib.hid (HC1.out.below hb)
  obtain ⟨h0, h1, h2, b0, b1, b2, b3, ⟨t0, t1, t2, t3, t4, t5⟩, f2, f3⟩ := HC2.out
  go_wp2_with fail
  refine (twin_c gb len wcap m a st f r F _ l1 l2 (by have := HB2.out.size; have := HS.out; have := HT.out; omega) (Lib.hid (fun p hp => (HB2.out.cell (p := ⟨gb, p, none⟩) (by show gb < _; have := HS.out; have := HT.out; omega)).trans ((HB0.out.cell (p := ⟨gb, p, none⟩) hg).trans (HW.out p hp))))).mono ?_
  rintro e w3 ⟨g, cp, rfl, hg1, hg2, hw3, hf3, hb3⟩
  have p0 := (hb3.cell (p := ⟨tb, 0, none⟩) (by show tb < _; have := HB2.out.size; have := HS.out; omega)).trans ((hb.cell (p := ⟨tb, 0, none⟩) (by show tb < _; have := HS.out; omega)).trans (c 0))
  have q0 := (hb3.frozen (p := ⟨tb, 0, none⟩) (by show tb < _; have := HB2.out.size; have := HS.out; omega)).trans ((hb.frozen (p := ⟨tb, 0, none⟩) (by show tb < _; have := HS.out; omega)).trans (cf 0))
  have p1 := (hb3.cell (p := ⟨tb, 1, none⟩) (by show tb < _; have := HB2.out.size; have := HS.out; omega)).trans ((hb.cell (p := ⟨tb, 1, none⟩) (by show tb < _; have := HS.out; omega)).trans (c 1))
  have q1 := (hb3.frozen (p := ⟨tb, 1, none⟩) (by show tb < _; have := HB2.out.size; have := HS.out; omega)).trans ((hb.frozen (p := ⟨tb, 1, none⟩) (by show tb < _; have := HS.out; omega)).trans (cf 1))
  have p2 := (hb3.cell (p := ⟨tb, 2, none⟩) (by show tb < _; have := HB2.out.size; have := HS.out; omega)).trans ((hb.cell (p := ⟨tb, 2, none⟩) (by show tb < _; have := HS.out; omega)).trans (c 2))
  have q2 := (hb3.frozen (p := ⟨tb, 2, none⟩) (by show tb < _; have := HB2.out.size; have := HS.out; omega)).trans ((hb.frozen (p := ⟨tb, 2, none⟩) (by show tb < _; have := HS.out; omega)).trans (cf 2))
  have p3 := (hb3.cell (p := ⟨tb, 3, none⟩) (by show tb < _; have := HB2.out.size; have := HS.out; omega)).trans ((hb.cell (p := ⟨tb, 3, none⟩) (by show tb < _; have := HS.out; omega)).trans (c 3))
  have q3 := (hb3.frozen (p := ⟨tb, 3, none⟩) (by show tb < _; have := HB2.out.size; have := HS.out; omega)).trans ((hb.frozen (p := ⟨tb, 3, none⟩) (by show tb < _; have := HS.out; omega)).trans (cf 3))
  have HB3 := Lib.hid (HB0.out.trans ((hb.mono (by have := HS.out; have := HT.out; omega)).trans (hb3.mono (by have := HB2.out.size; have := HS.out; have := HT.out; omega))))
  have HW3 := Lib.hid hw3
  have HF3 := Lib.hid hf3
  have hgt : tb + 1 ≤ g := by have := HS.out; have := HB2.out.size; omega
  clear b0 b1 b2 b3 t0 t1 t2 t3 t4 t5 f2 f3 c cf hb hb3 hw3 hf3
  unfold pieceV
  go_wp2
  have z0 : ((((w3.setCell ⟨tb, 0, none⟩ (.int .i64 m)).setCell ⟨tb, 1, none⟩ (.int .u64 a)).setCell ⟨tb, 2, none⟩ (.slice (some ⟨g, 0, none⟩) len cp)).setCell ⟨tb, 3, none⟩ (.int .i64 st)).cell? ⟨tb, 0, none⟩ = some (.int .i64 m) := ((sf _ _ _ _ (by simp)).trans ((sf _ _ _ _ (by simp)).trans ((sf _ _ _ _ (by simp)).trans (World.cell?_setCell_same _ _ _ p0))))
  have z1 : ((((w3.setCell ⟨tb, 0, none⟩ (.int .i64 m)).setCell ⟨tb, 1, none⟩ (.int .u64 a)).setCell ⟨tb, 2, none⟩ (.slice (some ⟨g, 0, none⟩) len cp)).setCell ⟨tb, 3, none⟩ (.int .i64 st)).cell? ⟨tb, 1, none⟩ = some (.int .u64 a) := ((sf _ _ _ _ (by simp)).trans ((sf _ _ _ _ (by simp)).trans (World.cell?_setCell_same _ _ _ ((sf _ _ _ _ (by simp)).trans p1))))
  have z2 : ((((w3.setCell ⟨tb, 0, none⟩ (.int .i64 m)).setCell ⟨tb, 1, none⟩ (.int .u64 a)).setCell ⟨tb, 2, none⟩ (.slice (some ⟨g, 0, none⟩) len cp)).setCell ⟨tb, 3, none⟩ (.int .i64 st)).cell? ⟨tb, 2, none⟩ = some (.slice (some ⟨g, 0, none⟩) len cp) := ((sf _ _ _ _ (by simp)).trans (World.cell?_setCell_same _ _ _ ((sf _ _ _ _ (by simp)).trans ((sf _ _ _ _ (by simp)).trans p2))))
  have z3 : ((((w3.setCell ⟨tb, 0, none⟩ (.int .i64 m)).setCell ⟨tb, 1, none⟩ (.int .u64 a)).setCell ⟨tb, 2, none⟩ (.slice (some ⟨g, 0, none⟩) len cp)).setCell ⟨tb, 3, none⟩ (.int .i64 st)).cell? ⟨tb, 3, none⟩ = some (.int .i64 st) := (World.cell?_setCell_same _ _ _ ((sf _ _ _ _ (by simp)).trans ((sf _ _ _ _ (by simp)).trans ((sf _ _ _ _ (by simp)).trans p3))))
  have HBX : Hid (Below w.heap.size w ((((w3.setCell ⟨tb, 0, none⟩ (.int .i64 m)).setCell ⟨tb, 1, none⟩ (.int .u64 a)).setCell ⟨tb, 2, none⟩ (.slice (some ⟨g, 0, none⟩) len cp)).setCell ⟨tb, 3, none⟩ (.int .i64 st))) := Lib.hid ((((HB3.out.setCell (by have := HT.out; show _ ≤ tb; omega) _).setCell (by have := HT.out; show _ ≤ tb; omega) _).setCell (by have := HT.out; show _ ≤ tb; omega) _).setCell (by have := HT.out; show _ ≤ tb; omega) _)
  have HWX : Hid (WdAt ((((w3.setCell ⟨tb, 0, none⟩ (.int .i64 m)).setCell ⟨tb, 1, none⟩ (.int .u64 a)).setCell ⟨tb, 2, none⟩ (.slice (some ⟨g, 0, none⟩) len cp)).setCell ⟨tb, 3, none⟩ (.int .i64 st)) g len F) := Lib.hid (fun p hp => (sf _ _ _ _ (by intro e; injection e with e1 _; omega)).trans ((sf _ _ _ _ (by intro e; injection e with e1 _; omega)).trans ((sf _ _ _ _ (by intro e; injection e with e1 _; omega)).trans ((sf _ _ _ _ (by intro e; injection e with e1 _; omega)).trans (HW3.out p hp)))))
  have HFX : Hid (∀ p, ((((w3.setCell ⟨tb, 0, none⟩ (.int .i64 m)).setCell ⟨tb, 1, none⟩ (.int .u64 a)).setCell ⟨tb, 2, none⟩ (.slice (some ⟨g, 0, none⟩) len cp)).setCell ⟨tb, 3, none⟩ (.int .i64 st)).frozen? ⟨g, p, none⟩ = false) := Lib.hid (fun p => (World.frozen?_setCell _ _ _ _).trans ((World.frozen?_setCell _ _ _ _).trans ((World.frozen?_setCell _ _ _ _).trans ((World.frozen?_setCell _ _ _ _).trans (HF3.out p)))))
  have hsx : ((((w3.setCell ⟨tb, 0, none⟩ (.int .i64 m)).setCell ⟨tb, 1, none⟩ (.int .u64 a)).setCell ⟨tb, 2, none⟩ (.slice (some ⟨g, 0, none⟩) len cp)).setCell ⟨tb, 3, none⟩ (.int .i64 st)).heap.size = w3.heap.size := by simp [World.setCell]
  generalize (((w3.setCell ⟨tb, 0, none⟩ (.int .i64 m)).setCell ⟨tb, 1, none⟩ (.int .u64 a)).setCell ⟨tb, 2, none⟩ (.slice (some ⟨g, 0, none⟩) len cp)).setCell ⟨tb, 3, none⟩ (.int .i64 st) = w9 at *
  refine bodyPost_ret (v := .tuple #[pieceV m a g len cp st, .bool true]) (by simp [results, Try.results28, go_sem, z0, z1, z2, z3, pieceV]) rfl ⟨g, cp, rfl, by have := HT.out; omega, by omega, HWX.out, HFX.out, HBX.out⟩
end Go.Proofs.Ytpjfjdncdiemlaa
