import Derived.Deep.CutBlock
import Derived.Deep.DeepCutAuto
import Derived.Test.YtnmgafaebggeiaaKc
import Derived.Test.YtnmgafaebggeiaaOb
import Derived.WalkKit
import Derived.ProofKit
import Derived.OpenShut
import Derived.Deep.QuietTactic
import Derived.BigQuiet
import Derived.Outline
import Derived.WalkSmall
import Derived.WalkLawsBesides
import Derived.WalkSpells
import Derived.BigGuardPart
import Derived.RegionTactic
import Derived.Deep.RegionHeld3
import Derived.Lib.Hide
import Derived.Deep.MidRow
import Derived.Below
import Derived.Deep.RegionWith
import Derived.Deep.OwnRows
import Derived.Deep.AppendLies
namespace Go.Proofs.Ytnmgafaebggeiaa
open Go.ChangeShapes Go.WideShapes Go.ChangeAt Go.RowKit
set_option linter.unusedVariables false
set_option maxRecDepth 100000 in
theorem joined_0 (S : Nat) (b : Bool) (w : World) : Calls Try.prog 34 #[.pointer (some ⟨S, 0, none⟩), .agg #[.int .i64 0, .int .i64 5, .int .i64 0, .int .i64 0, .int .i64 1, .bool false, .int .i64 0, .int .i64 0, .int .i64 1], .bool b] w fun e w' => e = .returned (ck 0 0 0 0) ∧ Below w.heap.size w w' := by
  go_enter Try.func34, Try.ntmps34
  go_wp2
  refine bodyPost_ret (v := ck 0 0 0 0) (by simp [results, Try.results34, go_sem, ck]) rfl ⟨rfl, ?_⟩
  exact ((Below.refl _ _).alloc (Nat.le_refl _) _).alloc (by simp) _
set_option maxRecDepth 100000 in
theorem joined_1 (S : Nat) (b : Bool) (w : World) : Calls Try.prog 34 #[.pointer (some ⟨S, 0, none⟩), .agg #[.int .i64 1, .int .i64 7, .int .i64 0, .int .i64 0, .int .i64 0, .bool false, .int .i64 0, .int .i64 0, .int .i64 2], .bool b] w fun e w' => e = .returned (ck 0 0 0 0) ∧ Below w.heap.size w w' := by
  go_enter Try.func34, Try.ntmps34
  go_wp2
  refine bodyPost_ret (v := ck 0 0 0 0) (by simp [results, Try.results34, go_sem, ck]) rfl ⟨rfl, ?_⟩
  exact ((Below.refl _ _).alloc (Nat.le_refl _) _).alloc (by simp) _
set_option maxRecDepth 100000 in
theorem joined_2 (S : Nat) (b : Bool) (w : World) : Calls Try.prog 34 #[.pointer (some ⟨S, 0, none⟩), .agg #[.int .i64 0, .int .i64 7, .int .i64 0, .int .i64 0, .int .i64 0, .bool false, .int .i64 0, .int .i64 0, .int .i64 3], .bool b] w fun e w' => e = .returned (ck 0 0 0 0) ∧ Below w.heap.size w w' := by
  go_enter Try.func34, Try.ntmps34
  go_wp2
  refine bodyPost_ret (v := ck 0 0 0 0) (by simp [results, Try.results34, go_sem, ck]) rfl ⟨rfl, ?_⟩
  exact ((Below.refl _ _).alloc (Nat.le_refl _) _).alloc (by simp) _
def SA0 (E Y R K : Nat) (m1 m2 : Value) : Array Value := #[.slice (some ⟨E, 0, none⟩) 3 3, .slice (some ⟨Y, 0, none⟩) 3 3, .slice (some ⟨R, 0, none⟩) 4 4, .int .i64 0, .int .i64 0, .int .i64 0, .int .i64 0, .int .i64 0, .int .i64 0, .int .i64 0, .int .i64 0, .int .i64 0, .int .i64 0, .int .i64 0, .int .i64 0, .int .i64 0, .int .i64 0, .int .i64 0, .int .i64 0, .int .i64 0, .int .i64 0, .int .i64 0, .int .i64 0, .int .i64 0, .int .i64 0, .int .i64 0, .int .i64 0, .int .i64 0, .int .i64 0, .int .i64 0, .int .i64 0, .int .i64 0, .int .i64 0, .int .i64 0, .int .i64 0, .int .i64 0, .int .i64 0, .int .i64 0, .int .i64 0, m1, m2, .slice (some ⟨K, 0, none⟩) 3 3]
def SA1 (E Y R K : Nat) (m1 m2 : Value) : Array Value := #[.slice (some ⟨E, 0, none⟩) 3 3, .slice (some ⟨Y, 0, none⟩) 3 3, .slice (some ⟨R, 0, none⟩) 4 4, .int .i64 1, .int .i64 0, .int .i64 0, .int .i64 0, .int .i64 1, .int .i64 0, .int .i64 0, .int .i64 0, .int .i64 0, .int .i64 0, .int .i64 0, .int .i64 0, .int .i64 0, .int .i64 0, .int .i64 0, .int .i64 0, .int .i64 0, .int .i64 0, .int .i64 0, .int .i64 0, .int .i64 0, .int .i64 0, .int .i64 0, .int .i64 0, .int .i64 1, .int .i64 0, .int .i64 0, .int .i64 0, .int .i64 0, .int .i64 0, .int .i64 0, .int .i64 0, .int .i64 0, .int .i64 0, .int .i64 0, .int .i64 0, m1, m2, .slice (some ⟨K, 0, none⟩) 3 3]
def SA2 (E Y R K : Nat) (m1 m2 : Value) : Array Value := #[.slice (some ⟨E, 0, none⟩) 3 3, .slice (some ⟨Y, 0, none⟩) 3 3, .slice (some ⟨R, 0, none⟩) 4 4, .int .i64 2, .int .i64 0, .int .i64 0, .int .i64 0, .int .i64 2, .int .i64 0, .int .i64 0, .int .i64 0, .int .i64 0, .int .i64 0, .int .i64 0, .int .i64 0, .int .i64 0, .int .i64 0, .int .i64 0, .int .i64 0, .int .i64 0, .int .i64 0, .int .i64 0, .int .i64 0, .int .i64 0, .int .i64 0, .int .i64 0, .int .i64 0, .int .i64 1, .int .i64 0, .int .i64 0, .int .i64 0, .int .i64 0, .int .i64 0, .int .i64 0, .int .i64 0, .int .i64 0, .int .i64 0, .int .i64 0, .int .i64 0, m1, m2, .slice (some ⟨K, 0, none⟩) 3 3]
def SA3 (E Y R K : Nat) (m1 m2 : Value) : Array Value := #[.slice (some ⟨E, 0, none⟩) 3 3, .slice (some ⟨Y, 0, none⟩) 3 3, .slice (some ⟨R, 0, none⟩) 4 4, .int .i64 2, .int .i64 1, .int .i64 0, .int .i64 0, .int .i64 2, .int .i64 0, .int .i64 0, .int .i64 0, .int .i64 1, .int .i64 1, .int .i64 0, .int .i64 0, .int .i64 0, .int .i64 0, .int .i64 0, .int .i64 0, .int .i64 0, .int .i64 0, .int .i64 0, .int .i64 0, .int .i64 0, .int .i64 0, .int .i64 0, .int .i64 0, .int .i64 1, .int .i64 0, .int .i64 0, .int .i64 0, .int .i64 0, .int .i64 0, .int .i64 0, .int .i64 0, .int .i64 0, .int .i64 0, .int .i64 0, .int .i64 0, m1, m2, .slice (some ⟨K, 0, none⟩) 3 3]
def SN0 (E Y R K : Nat) (m1 m2 : Value) : Array Value := #[.slice (some ⟨E, 0, none⟩) 3 3, .slice (some ⟨Y, 0, none⟩) 3 3, .slice (some ⟨R, 0, none⟩) 4 4, .int .i64 0, .int .i64 0, .int .i64 0, .int .i64 0, .int .i64 1, .int .i64 0, .int .i64 0, .int .i64 0, .int .i64 0, .int .i64 0, .int .i64 0, .int .i64 0, .int .i64 0, .int .i64 0, .int .i64 0, .int .i64 0, .int .i64 0, .int .i64 0, .int .i64 0, .int .i64 0, .int .i64 0, .int .i64 0, .int .i64 0, .int .i64 0, .int .i64 0, .int .i64 0, .int .i64 0, .int .i64 0, .int .i64 0, .int .i64 0, .int .i64 0, .int .i64 0, .int .i64 0, .int .i64 0, .int .i64 0, .int .i64 0, m1, m2, .slice (some ⟨K, 0, none⟩) 3 3]
def SN1 (E Y R K : Nat) (m1 m2 : Value) : Array Value := #[.slice (some ⟨E, 0, none⟩) 3 3, .slice (some ⟨Y, 0, none⟩) 3 3, .slice (some ⟨R, 0, none⟩) 4 4, .int .i64 1, .int .i64 0, .int .i64 0, .int .i64 0, .int .i64 2, .int .i64 0, .int .i64 0, .int .i64 0, .int .i64 0, .int .i64 0, .int .i64 0, .int .i64 0, .int .i64 0, .int .i64 0, .int .i64 0, .int .i64 0, .int .i64 0, .int .i64 0, .int .i64 0, .int .i64 0, .int .i64 0, .int .i64 0, .int .i64 0, .int .i64 0, .int .i64 1, .int .i64 0, .int .i64 0, .int .i64 0, .int .i64 0, .int .i64 0, .int .i64 0, .int .i64 0, .int .i64 0, .int .i64 0, .int .i64 0, .int .i64 0, m1, m2, .slice (some ⟨K, 0, none⟩) 3 3]
def SN2 (E Y R K : Nat) (m1 m2 : Value) : Array Value := #[.slice (some ⟨E, 0, none⟩) 3 3, .slice (some ⟨Y, 0, none⟩) 3 3, .slice (some ⟨R, 0, none⟩) 4 4, .int .i64 2, .int .i64 0, .int .i64 0, .int .i64 0, .int .i64 2, .int .i64 0, .int .i64 0, .int .i64 0, .int .i64 1, .int .i64 1, .int .i64 0, .int .i64 0, .int .i64 0, .int .i64 0, .int .i64 0, .int .i64 0, .int .i64 0, .int .i64 0, .int .i64 0, .int .i64 0, .int .i64 0, .int .i64 0, .int .i64 0, .int .i64 0, .int .i64 1, .int .i64 0, .int .i64 0, .int .i64 0, .int .i64 0, .int .i64 0, .int .i64 0, .int .i64 0, .int .i64 0, .int .i64 0, .int .i64 0, .int .i64 0, m1, m2, .slice (some ⟨K, 0, none⟩) 3 3]
def SG0 (E Y R K : Nat) (m1 m2 : Value) : Array Value := #[.slice (some ⟨E, 0, none⟩) 3 3, .slice (some ⟨Y, 0, none⟩) 3 3, .slice (some ⟨R, 0, none⟩) 4 4, .int .i64 1, .int .i64 0, .int .i64 0, .int .i64 0, .int .i64 1, .int .i64 0, .int .i64 0, .int .i64 0, .int .i64 0, .int .i64 0, .int .i64 0, .int .i64 0, .int .i64 0, .int .i64 0, .int .i64 0, .int .i64 0, .int .i64 0, .int .i64 0, .int .i64 0, .int .i64 0, .int .i64 0, .int .i64 0, .int .i64 0, .int .i64 0, .int .i64 0, .int .i64 0, .int .i64 0, .int .i64 0, .int .i64 0, .int .i64 0, .int .i64 0, .int .i64 0, .int .i64 0, .int .i64 0, .int .i64 0, .int .i64 0, m1, m2, .slice (some ⟨K, 0, none⟩) 3 3]
theorem cell_gr {w w' : World} {g b i : Nat} (hg : w.grownBy w' (some b)) (hl : g < w.heap.size) (hne : g < b) : w'.cell? ⟨g, i, none⟩ = w.cell? ⟨g, i, none⟩ := by
  have h := hg.block g hl (fun e => by injection e with e; omega)
  unfold World.cell?
  rw [h]
theorem Kn.far {E Y R S g0 p0 g1 p1 b B : Nat} {SA : Array Value} {w w' : World} (h : Kn E Y R S g0 p0 g1 p1 SA w) (hg : w.grownBy w' (some b)) (hl : E < B ∧ Y < B ∧ R < B ∧ S < B ∧ g0 < B ∧ g1 < B) (hB : B ≤ b) (hz : w.heap.size ≤ w'.heap.size) : Kn E Y R S g0 p0 g1 p1 SA w' := by
  obtain ⟨l1, l2, l3, l4, l5, l6⟩ := hl
  exact ⟨rowAt_grown h.ev hg (by omega), rowAt_grown h.yy hg (by omega), rowAt_grown h.rr hg (by omega), (cell_gr hg h.k0 (by omega)).trans h.a0, (cell_gr hg h.k0 (by omega)).trans h.a1, (cell_gr hg h.k1 (by omega)).trans h.b0, rowAt_grown h.st hg (by omega), h.h0, h.h1, Nat.lt_of_lt_of_le h.k0 hz, Nat.lt_of_lt_of_le h.k1 hz, h.s0, h.s1, h.s2⟩
theorem Kn.lts {E Y R S g0 p0 g1 p1 : Nat} {SA : Array Value} {w : World} (h : Kn E Y R S g0 p0 g1 p1 SA w) : E < w.heap.size ∧ Y < w.heap.size ∧ R < w.heap.size ∧ S < w.heap.size ∧ g0 < w.heap.size ∧ g1 < w.heap.size := ⟨rowAt_lt h.ev, rowAt_lt h.yy, rowAt_lt h.rr, rowAt_lt h.st, h.k0, h.k1⟩
theorem Kn.off {E Y R S g0 p0 g1 p1 b : Nat} {SA : Array Value} {w w' : World} (h : Kn E Y R S g0 p0 g1 p1 SA w) (hg : w.grownBy w' (some b)) (hl : E ≠ b ∧ Y ≠ b ∧ R ≠ b ∧ g0 ≠ b ∧ g1 ≠ b) (hS : S ≠ b) : Kn E Y R S g0 p0 g1 p1 SA w' := by
  obtain ⟨l1, l2, l3, l5, l6⟩ := hl
  have q : ∀ g i, g < w.heap.size → g ≠ b → w'.cell? ⟨g, i, none⟩ = w.cell? ⟨g, i, none⟩ := fun g i hl hne => by
    have h := hg.block g hl (fun e => by injection e with e; omega)
    unfold World.cell?
    rw [h]
  have hz := hg.size
  exact ⟨rowAt_grown h.ev hg l1, rowAt_grown h.yy hg l2, rowAt_grown h.rr hg l3, (q _ _ h.k0 l5).trans h.a0, (q _ _ h.k0 l5).trans h.a1, (q _ _ h.k1 l6).trans h.b0, rowAt_grown h.st hg hS, h.h0, h.h1, Nat.lt_of_lt_of_le h.k0 hz, Nat.lt_of_lt_of_le h.k1 hz, h.s0, h.s1, h.s2⟩
theorem Kn.put {E Y R S g0 p0 g1 p1 : Nat} {SA SA' : Array Value} {w w' : World} (h : Kn E Y R S g0 p0 g1 p1 SA w) (hg : w.grownBy w' (some S)) (hl : E ≠ S ∧ Y ≠ S ∧ R ≠ S ∧ g0 ≠ S ∧ g1 ≠ S) (hr : rowAt w' S = some SA') (s0 : SA'[0]? = SA[0]?) (s1 : SA'[1]? = SA[1]?) (s2 : SA'[2]? = SA[2]?) : Kn E Y R S g0 p0 g1 p1 SA' w' := by
  obtain ⟨l1, l2, l3, l5, l6⟩ := hl
  have q : ∀ g i, g < w.heap.size → g ≠ S → w'.cell? ⟨g, i, none⟩ = w.cell? ⟨g, i, none⟩ := fun g i hl hne => by
    have h := hg.block g hl (fun e => by injection e with e; omega)
    unfold World.cell?
    rw [h]
  have hz := hg.size
  exact ⟨rowAt_grown h.ev hg l1, rowAt_grown h.yy hg l2, rowAt_grown h.rr hg l3, (q _ _ h.k0 l5).trans h.a0, (q _ _ h.k0 l5).trans h.a1, (q _ _ h.k1 l6).trans h.b0, hr, h.h0, h.h1, Nat.lt_of_lt_of_le h.k0 hz, Nat.lt_of_lt_of_le h.k1 hz, s0.trans h.s0, s1.trans h.s1, s2.trans h.s2⟩
def StampP (E Y R S K g0 p0 g1 p1 : Nat) (SA KA : Array Value) (w : World) (e : Ending) (w' : World) : Prop := e = .returned (.tuple #[]) ∧ Kn E Y R S g0 p0 g1 p1 SA w' ∧ rowAt w' K = some KA ∧ ∀ B, B ≤ S → B ≤ K → B ≤ w.heap.size → Below B w w'
/-- What stands while a stamp is put down. -/
structure Pt (E Y R S K g0 p0 g1 p1 x cb : Nat) (SA KA EV C : Array Value) (w wx : World) : Prop where
  kn : Kn E Y R S g0 p0 g1 p1 SA wx
  ka : rowAt wx K = some KA
  ex : rowAt wx x = some EV
  ec : rowAt wx cb = some C
  bl : ∀ B, B ≤ S → B ≤ K → B ≤ w.heap.size → Below B w wx
  lx : x ≠ S ∧ x ≠ K ∧ cb ≠ S ∧ cb ≠ K ∧ K ≠ S
  ls : E ≠ S ∧ Y ≠ S ∧ R ≠ S ∧ g0 ≠ S ∧ g1 ≠ S
  lk : E ≠ K ∧ Y ≠ K ∧ R ≠ K ∧ g0 ≠ K ∧ g1 ≠ K
theorem Pt.same {E Y R S K g0 p0 g1 p1 x cb : Nat} {SA KA EV C : Array Value} {w wx : World} (h : Pt E Y R S K g0 p0 g1 p1 x cb SA KA EV C w wx) : Pt E Y R S K g0 p0 g1 p1 x cb SA KA EV C w wx.drew :=
  ⟨h.kn.past (Below.refl wx.heap.size wx).drew rfl, h.ka, h.ex, h.ec, fun B a b c => (h.bl B a b c).drew, h.lx, h.ls, h.lk⟩
theorem Pt.putS {E Y R S K g0 p0 g1 p1 x cb : Nat} {SA SA' KA EV C : Array Value} {w wx w' : World} (h : Pt E Y R S K g0 p0 g1 p1 x cb SA KA EV C w wx) (hg : wx.grownBy w' (some S)) (hr : rowAt w' S = some SA') (s0 : SA'[0]? = SA[0]?) (s1 : SA'[1]? = SA[1]?) (s2 : SA'[2]? = SA[2]?) : Pt E Y R S K g0 p0 g1 p1 x cb SA' KA EV C w w' :=
  ⟨h.kn.put hg h.ls hr s0 s1 s2, rowAt_grown h.ka hg h.lx.2.2.2.2, rowAt_grown h.ex hg h.lx.1, rowAt_grown h.ec hg h.lx.2.2.1, fun B a b c => (h.bl B a b c).grown hg (Nat.le_trans c (h.bl _ a b c).size |> fun _ => Nat.le_trans c ((h.bl B a b c).size)) (fun k hk => by injection hk with hk; omega), h.lx, h.ls, h.lk⟩
theorem Pt.putK {E Y R S K g0 p0 g1 p1 x cb : Nat} {SA KA KA' EV C : Array Value} {w wx w' : World} (h : Pt E Y R S K g0 p0 g1 p1 x cb SA KA EV C w wx) (hg : wx.grownBy w' (some K)) (hr : rowAt w' K = some KA') : Pt E Y R S K g0 p0 g1 p1 x cb SA KA' EV C w w' :=
  ⟨h.kn.off hg h.lk (fun e => h.lx.2.2.2.2 e.symm), hr, rowAt_grown h.ex hg h.lx.2.1, rowAt_grown h.ec hg h.lx.2.2.2.1, fun B a b c => (h.bl B a b c).grown hg (Nat.le_trans c ((h.bl B a b c).size)) (fun k hk => by injection hk with hk; omega), h.lx, h.ls, h.lk⟩
structure CutP (w : World) (E Y R S K g0 p0 g1 p1 x : Nat) (SA KA EV C : Array Value) (s : Value) (wx : World) : Prop where
  bk : ∃ b, s = .pointer (some ⟨b, 0, none⟩) ∧ rowAt wx b = some C ∧ w.heap.size ≤ b ∧ b ≠ x
  kn : Kn E Y R S g0 p0 g1 p1 SA wx
  ka : rowAt wx K = some KA
  ex : rowAt wx x = some EV
  bl : Below w.heap.size w wx
structure In (w : World) (E Y R S K g0 p0 g1 p1 x nb : Nat) (SA KA EV C : Array Value) (wx : World) : Prop where
  kn : Kn E Y R S g0 p0 g1 p1 SA wx
  ka : rowAt wx K = some KA
  ex : rowAt wx x = some EV
  en : rowAt wx nb = some C
  bl : Below w.heap.size w wx
theorem In.past {w : World} {E Y R S K g0 p0 g1 p1 x nb : Nat} {SA KA EV C : Array Value} {wx W w' : World} (h : In w E Y R S K g0 p0 g1 p1 x nb SA KA EV C wx) (hb : Below W.heap.size W w') (he : W.heap = wx.heap) (ho : W.os = wx.os) (ht : W.tape = wx.tape) (hp : W.output = wx.output) : In w E Y R S K g0 p0 g1 p1 x nb SA KA EV C w' :=
  ⟨h.kn.past hb he, rowAt_below h.ka hb he, rowAt_below h.ex hb he, rowAt_below h.en hb he, below_step h.bl hb he ho ht hp⟩
theorem In.far {w : World} {E Y R S K g0 p0 g1 p1 x nb b : Nat} {SA KA EV C : Array Value} {wx w' : World} (h : In w E Y R S K g0 p0 g1 p1 x nb SA KA EV C wx) (hg : wx.grownBy w' (some b)) (hl : E < w.heap.size ∧ Y < w.heap.size ∧ R < w.heap.size ∧ S < w.heap.size ∧ g0 < w.heap.size ∧ g1 < w.heap.size) (hK : K < w.heap.size) (hB : w.heap.size ≤ b) (hx : x < b) (hn : nb < b) (hz : wx.heap.size ≤ w'.heap.size) : In w E Y R S K g0 p0 g1 p1 x nb SA KA EV C w' :=
  ⟨h.kn.far hg hl hB hz, rowAt_grown h.ka hg (by omega), rowAt_grown h.ex hg (by omega), rowAt_grown h.en hg (by omega), grown_below h.bl hg hB⟩
set_option maxRecDepth 100000 in
set_option maxHeartbeats 4000000 in
theorem stamp_0 {E Y R S K g0 p0 g1 p1 : Nat} {m1 m2 : Value} (w : World) (hk : Kn E Y R S g0 p0 g1 p1 (SA0 E Y R K m1 m2) w) (hls : E ≠ S ∧ Y ≠ S ∧ R ≠ S ∧ g0 ≠ S ∧ g1 ≠ S) (hlk : E ≠ K ∧ Y ≠ K ∧ R ≠ K ∧ g0 ≠ K ∧ g1 ≠ K) (hKS : K ≠ S) (hka : rowAt w K = some #[.int .i64 0, .int .i64 0, .int .i64 0, .int .i64 0, .int .i64 0, .int .i64 0, .int .i64 0, .int .i64 0, .int .i64 0, .int .i64 0, .int .i64 0, .int .i64 0]) : Calls Try.prog 29 #[.pointer (some ⟨S, 0, none⟩), .int .i64 0] w (StampP E Y R S K g0 p0 g1 p1 (SA1 E Y R K m1 m2) #[.int .i64 1, .int .i64 0, .int .i64 0, .int .i64 0, .int .i64 0, .int .i64 0, .int .i64 0, .int .i64 0, .int .i64 0, .int .i64 0, .int .i64 0, .int .i64 0] w) := by
  have k1 := hk.past ((Below.refl w.heap.size w).alloc (Nat.le_refl _) (.cells #[.int .i64 0, .int .i64 5, .int .i64 0, .int .i64 0, .int .i64 1, .bool false, .int .i64 0, .int .i64 0, .int .i64 1] 44)) rfl
  have k2 := hk.past (((Below.refl w.heap.size w).alloc (Nat.le_refl _) (.cells #[.int .i64 0, .int .i64 5, .int .i64 0, .int .i64 0, .int .i64 1, .bool false, .int .i64 0, .int .i64 0, .int .i64 1] 44)).alloc (by simp) (.cells #[.int .i64 0, .int .i64 0, .int .i64 0, .int .i64 0] 24)) rfl
  have k3 := hk.past (((Below.refl w.heap.size w).alloc (Nat.le_refl _) (.cells #[.int .i64 0, .int .i64 5, .int .i64 0, .int .i64 0, .int .i64 1, .bool false, .int .i64 0, .int .i64 0, .int .i64 1] 44)).alloc (by simp) (.cells #[.int .i64 0, .int .i64 0, .int .i64 0, .int .i64 0] 24)) rfl
  have s0 : w.cell? ⟨S, 0, none⟩ = some (.slice (some ⟨E, 0, none⟩) 3 3) := rowAt_cell hk.st 0
  have ev0 : w.cell? ⟨E, 0, none⟩ = some (.int .i64 0) := rowAt_cell hk.ev 0
  have ev1 : w.cell? ⟨E, 1, none⟩ = some (.int .i64 5) := rowAt_cell hk.ev 1
  have ev2 : w.cell? ⟨E, 2, none⟩ = some (.int .i64 0) := rowAt_cell hk.ev 2
  have ev3 : w.cell? ⟨E, 3, none⟩ = some (.int .i64 0) := rowAt_cell hk.ev 3
  have ev4 : w.cell? ⟨E, 4, none⟩ = some (.int .i64 1) := rowAt_cell hk.ev 4
  have ev5 : w.cell? ⟨E, 5, none⟩ = some (.bool false) := rowAt_cell hk.ev 5
  have ev6 : w.cell? ⟨E, 6, none⟩ = some (.int .i64 0) := rowAt_cell hk.ev 6
  have ev7 : w.cell? ⟨E, 7, none⟩ = some (.int .i64 0) := rowAt_cell hk.ev 7
  have ev8 : w.cell? ⟨E, 8, none⟩ = some (.int .i64 1) := rowAt_cell hk.ev 8
  have no0 : (w.alloc (.cells #[.int .i64 0, .int .i64 5, .int .i64 0, .int .i64 0, .int .i64 1, .bool false, .int .i64 0, .int .i64 0, .int .i64 1] 44)).cell? ⟨S, 7, none⟩ = some (.int .i64 0) := rowAt_cell k1.st 7
  have no1 : (w.alloc (.cells #[.int .i64 0, .int .i64 5, .int .i64 0, .int .i64 0, .int .i64 1, .bool false, .int .i64 0, .int .i64 0, .int .i64 1] 44)).cell? ⟨S, 8, none⟩ = some (.int .i64 0) := rowAt_cell k1.st 8
  have no2 : (w.alloc (.cells #[.int .i64 0, .int .i64 5, .int .i64 0, .int .i64 0, .int .i64 1, .bool false, .int .i64 0, .int .i64 0, .int .i64 1] 44)).cell? ⟨S, 9, none⟩ = some (.int .i64 0) := rowAt_cell k1.st 9
  have no3 : (w.alloc (.cells #[.int .i64 0, .int .i64 5, .int .i64 0, .int .i64 0, .int .i64 1, .bool false, .int .i64 0, .int .i64 0, .int .i64 1] 44)).cell? ⟨S, 10, none⟩ = some (.int .i64 0) := rowAt_cell k1.st 10
  have go0 : ((w.alloc (.cells #[.int .i64 0, .int .i64 5, .int .i64 0, .int .i64 0, .int .i64 1, .bool false, .int .i64 0, .int .i64 0, .int .i64 1] 44)).alloc (.cells #[.int .i64 0, .int .i64 0, .int .i64 0, .int .i64 0] 24)).cell? ⟨S, 3, none⟩ = some (.int .i64 0) := rowAt_cell k2.st 3
  have go1 : ((w.alloc (.cells #[.int .i64 0, .int .i64 5, .int .i64 0, .int .i64 0, .int .i64 1, .bool false, .int .i64 0, .int .i64 0, .int .i64 1] 44)).alloc (.cells #[.int .i64 0, .int .i64 0, .int .i64 0, .int .i64 0] 24)).cell? ⟨S, 4, none⟩ = some (.int .i64 0) := rowAt_cell k2.st 4
  have go2 : ((w.alloc (.cells #[.int .i64 0, .int .i64 5, .int .i64 0, .int .i64 0, .int .i64 1, .bool false, .int .i64 0, .int .i64 0, .int .i64 1] 44)).alloc (.cells #[.int .i64 0, .int .i64 0, .int .i64 0, .int .i64 0] 24)).cell? ⟨S, 5, none⟩ = some (.int .i64 0) := rowAt_cell k2.st 5
  have go3 : ((w.alloc (.cells #[.int .i64 0, .int .i64 5, .int .i64 0, .int .i64 0, .int .i64 1, .bool false, .int .i64 0, .int .i64 0, .int .i64 1] 44)).alloc (.cells #[.int .i64 0, .int .i64 0, .int .i64 0, .int .i64 0] 24)).cell? ⟨S, 6, none⟩ = some (.int .i64 0) := rowAt_cell k2.st 6
  have HL : Hid (E < w.heap.size ∧ Y < w.heap.size ∧ R < w.heap.size ∧ S < w.heap.size ∧ g0 < w.heap.size ∧ g1 < w.heap.size) := Lib.hid hk.lts
  have HKl : Hid (K < w.heap.size) := Lib.hid (rowAt_lt hka)
  have HI : Hid (In w E Y R S K g0 p0 g1 p1 w.heap.size (w.heap.size + 1) (SA0 E Y R K m1 m2) #[.int .i64 0, .int .i64 0, .int .i64 0, .int .i64 0, .int .i64 0, .int .i64 0, .int .i64 0, .int .i64 0, .int .i64 0, .int .i64 0, .int .i64 0, .int .i64 0] #[.int .i64 0, .int .i64 5, .int .i64 0, .int .i64 0, .int .i64 1, .bool false, .int .i64 0, .int .i64 0, .int .i64 1] #[.int .i64 0, .int .i64 0, .int .i64 0, .int .i64 0] ((w.alloc (.cells #[.int .i64 0, .int .i64 5, .int .i64 0, .int .i64 0, .int .i64 1, .bool false, .int .i64 0, .int .i64 0, .int .i64 1] 44)).alloc (.cells #[.int .i64 0, .int .i64 0, .int .i64 0, .int .i64 0] 24))) := Lib.hid ⟨k3, rowAt_past (rowAt_past hka _) _, rowAt_past (rowAt_new _ _ _) _, (by have := rowAt_new (w.alloc (.cells #[.int .i64 0, .int .i64 5, .int .i64 0, .int .i64 0, .int .i64 1, .bool false, .int .i64 0, .int .i64 0, .int .i64 1] 44)) #[.int .i64 0, .int .i64 0, .int .i64 0, .int .i64 0] 24; simpa using this), ((Below.refl w.heap.size w).alloc (Nat.le_refl _) _).alloc (by simp) _⟩
  clear hk k1 k2 k3 hka
  go_enter Try.func29, Try.ntmps29
  go_upto_region 5 with (fail)
  clear s0 ev0 ev1 ev2 ev3 ev4 ev5 ev6 ev7 ev8 no0 no1 no2 no3 go0 go1 go2 go3
  obtain ⟨U, hU⟩ : ∃ U, U = ((w.alloc (.cells #[.int .i64 0, .int .i64 5, .int .i64 0, .int .i64 0, .int .i64 1, .bool false, .int .i64 0, .int .i64 0, .int .i64 1] 44)).alloc (.cells #[.int .i64 0, .int .i64 0, .int .i64 0, .int .i64 0] 24)) := ⟨_, rfl⟩
  rw [← hU] at HI ⊢
  clear hU
  obtain ⟨x, hx⟩ : ∃ x, x = w.heap.size := ⟨_, rfl⟩
  have HX := Lib.hid hx
  replace HI : Hid (In w E Y R S K g0 p0 g1 p1 x (x + 1) (SA0 E Y R K m1 m2) #[.int .i64 0, .int .i64 0, .int .i64 0, .int .i64 0, .int .i64 0, .int .i64 0, .int .i64 0, .int .i64 0, .int .i64 0, .int .i64 0, .int .i64 0, .int .i64 0] #[.int .i64 0, .int .i64 5, .int .i64 0, .int .i64 0, .int .i64 1, .bool false, .int .i64 0, .int .i64 0, .int .i64 1] #[.int .i64 0, .int .i64 0, .int .i64 0, .int .i64 0] U) := by rw [hx]; exact HI
  rw [← hx]
  clear hx
  generalize x + 1 = nb at HI ⊢
  go_cut [7] from 40 to 53 (fun s wx => CutP w E Y R S K g0 p0 g1 p1 x (SA0 E Y R K m1 m2) #[.int .i64 0, .int .i64 0, .int .i64 0, .int .i64 0, .int .i64 0, .int .i64 0, .int .i64 0, .int .i64 0, .int .i64 0, .int .i64 0, .int .i64 0, .int .i64 0] #[.int .i64 0, .int .i64 5, .int .i64 0, .int .i64 0, .int .i64 1, .bool false, .int .i64 0, .int .i64 0, .int .i64 1] #[.int .i64 1, .int .i64 0, .int .i64 0, .int .i64 0] s wx)
  case first =>
    go_wp2
    refine wp_region_held_drew (S := (fun w' => w'.cell? ⟨x, 0, none⟩ = some (.int .i64 0) ∧ w'.cell? ⟨x, 1, none⟩ = some (.int .i64 5) ∧ w'.cell? ⟨x, 2, none⟩ = some (.int .i64 0) ∧ w'.cell? ⟨x, 3, none⟩ = some (.int .i64 0) ∧ w'.cell? ⟨x, 4, none⟩ = some (.int .i64 1) ∧ w'.cell? ⟨x, 5, none⟩ = some (.bool false) ∧ w'.cell? ⟨x, 6, none⟩ = some (.int .i64 0) ∧ w'.cell? ⟨x, 7, none⟩ = some (.int .i64 0) ∧ w'.cell? ⟨x, 8, none⟩ = some (.int .i64 1) ∧ w'.cell? ⟨nb, 0, none⟩ = some (.int .i64 0) ∧ w'.cell? ⟨nb, 1, none⟩ = some (.int .i64 0) ∧ w'.cell? ⟨nb, 2, none⟩ = some (.int .i64 0) ∧ w'.cell? ⟨nb, 3, none⟩ = some (.int .i64 0) ∧ w'.cell? ⟨S, 1, none⟩ = some (.slice (some ⟨Y, 0, none⟩) 3 3) ∧ w'.cell? ⟨Y, 0, none⟩ = some (.bool true))) (by kernel_rfl) ⟨rowAt_cell HI.out.ex 0, rowAt_cell HI.out.ex 1, rowAt_cell HI.out.ex 2, rowAt_cell HI.out.ex 3, rowAt_cell HI.out.ex 4, rowAt_cell HI.out.ex 5, rowAt_cell HI.out.ex 6, rowAt_cell HI.out.ex 7, rowAt_cell HI.out.ex 8, rowAt_cell HI.out.en 0, rowAt_cell HI.out.en 1, rowAt_cell HI.out.en 2, rowAt_cell HI.out.en 3, rowAt_cell HI.out.kn.st 1, rowAt_cell HI.out.kn.yy 0⟩ (fun hHeld => ?_)
    replace HI := Lib.hid (HI.out.past (Below.refl U.heap.size U).drew rfl rfl rfl rfl)
    generalize U.drew = u at hHeld HI ⊢
    refine wpAnyH_take (i := 0) (oi := { dst := some 40, op := Op.load 24 (Operand.tmp 6), type := 24, pos := "stamp.go:115", after := #[], guard := none }) (v := ?_) rfl (by kernel_rfl) (by kernel_rfl) (by kernel_rfl) (fun _ _ _ h => h) (Or.inl ⟨by rfl, ?_⟩) (by assumption) ?_
    rotate_left
    · (intro w0 hSw; (try dsimp only at hSw); go_split_ands; go_simp; with_reducible rfl)
    try simp only [Act.put, List.setIfInBounds_toArray, List.set_cons_zero, List.set_cons_succ]
    refine wpAnyH_take (i := 1) (oi := { dst := some 41, op := Op.move (Operand.tmp 0), type := 50, pos := "stamp.go:115", after := #[], guard := none }) (v := ?_) rfl (by kernel_rfl) (by kernel_rfl) (by kernel_rfl) (fun _ _ _ h => h) (Or.inl ⟨by rfl, ?_⟩) (by assumption) ?_
    rotate_left
    · (intro w0 hSw; (try dsimp only at hSw); go_split_ands; go_simp; with_reducible rfl)
    try simp only [Act.put, List.setIfInBounds_toArray, List.set_cons_zero, List.set_cons_succ]
    refine wpAnyH_take (i := 2) (oi := { dst := some 42, op := Op.load 44 (Operand.tmp 4), type := 44, pos := "stamp.go:115", after := #[], guard := none }) (v := ?_) rfl (by kernel_rfl) (by kernel_rfl) (by kernel_rfl) (fun _ _ _ h => h) (Or.inl ⟨by rfl, ?_⟩) (by assumption) ?_
    rotate_left
    · (intro w0 hSw; (try dsimp only at hSw); go_split_ands; go_simp; with_reducible rfl)
    try simp only [Act.put, List.setIfInBounds_toArray, List.set_cons_zero, List.set_cons_succ]
    refine wpAnyH_take (i := 3) (oi := { dst := some 43, op := Op.move (Operand.tmp 0), type := 50, pos := "stamp.go:115", after := #[], guard := none }) (v := ?_) rfl (by kernel_rfl) (by kernel_rfl) (by kernel_rfl) (fun _ _ _ h => h) (Or.inl ⟨by rfl, ?_⟩) (by assumption) ?_
    rotate_left
    · (intro w0 hSw; (try dsimp only at hSw); go_split_ands; go_simp; with_reducible rfl)
    try simp only [Act.put, List.setIfInBounds_toArray, List.set_cons_zero, List.set_cons_succ]
    refine wpAnyH_take (i := 4) (oi := { dst := some 44, op := Op.nilCheck (Operand.tmp 43), type := 0, pos := "stamp.go:115", after := #[{ on := 3, ground := Ground.data }], guard := none }) (v := ?_) rfl (by kernel_rfl) (by kernel_rfl) (by kernel_rfl) (fun _ _ _ h => h) (Or.inl ⟨by rfl, ?_⟩) (by assumption) ?_
    rotate_left
    · (intro w0 hSw; (try dsimp only at hSw); go_split_ands; go_simp; with_reducible rfl)
    try simp only [Act.put, List.setIfInBounds_toArray, List.set_cons_zero, List.set_cons_succ]
    refine wpAnyH_take (i := 5) (oi := { dst := some 45, op := Op.fieldAddr 59 (Operand.tmp 44) 1, type := 0, pos := "stamp.go:115", after := #[{ on := 4, ground := Ground.data }], guard := none }) (v := ?_) rfl (by kernel_rfl) (by kernel_rfl) (by kernel_rfl) (fun _ _ _ h => h) (Or.inl ⟨by rfl, ?_⟩) (by assumption) ?_
    rotate_left
    · (intro w0 hSw; (try dsimp only at hSw); go_split_ands; go_simp; with_reducible rfl)
    try simp only [Act.put, List.setIfInBounds_toArray, List.set_cons_zero, List.set_cons_succ]
    refine wpAnyH_take (i := 6) (oi := { dst := some 46, op := Op.load 51 (Operand.tmp 45), type := 51, pos := "stamp.go:115", after := #[{ on := 5, ground := Ground.data }], guard := none }) (v := ?_) rfl (by kernel_rfl) (by kernel_rfl) (by kernel_rfl) (fun _ _ _ h => h) (Or.inl ⟨by rfl, ?_⟩) (by assumption) ?_
    rotate_left
    · (intro w0 hSw; (try dsimp only at hSw); go_split_ands; go_simp; with_reducible rfl)
    try simp only [Act.put, List.setIfInBounds_toArray, List.set_cons_zero, List.set_cons_succ]
    refine wpAnyH_take (i := 7) (oi := { dst := some 47, op := Op.move (Operand.tmp 1), type := 3, pos := "stamp.go:115", after := #[], guard := none }) (v := ?_) rfl (by kernel_rfl) (by kernel_rfl) (by kernel_rfl) (fun _ _ _ h => h) (Or.inl ⟨by rfl, ?_⟩) (by assumption) ?_
    rotate_left
    · (intro w0 hSw; (try dsimp only at hSw); go_split_ands; go_simp; with_reducible rfl)
    try simp only [Act.put, List.setIfInBounds_toArray, List.set_cons_zero, List.set_cons_succ]
    refine wpAnyH_take (i := 8) (oi := { dst := some 48, op := Op.indexAddr 51 (Operand.tmp 46) (Operand.tmp 47), type := 0, pos := "stamp.go:115", after := #[{ on := 6, ground := Ground.data }, { on := 7, ground := Ground.data }], guard := none }) (v := ?_) rfl (by kernel_rfl) (by kernel_rfl) (by kernel_rfl) (fun _ _ _ h => h) (Or.inl ⟨by rfl, ?_⟩) (by assumption) ?_
    rotate_left
    · (intro w0 hSw; (try dsimp only at hSw); go_split_ands; go_simp; with_reducible rfl)
    try simp only [Act.put, List.setIfInBounds_toArray, List.set_cons_zero, List.set_cons_succ]
    refine wpAnyH_take (i := 9) (oi := { dst := some 49, op := Op.load 4 (Operand.tmp 48), type := 4, pos := "stamp.go:115", after := #[{ on := 8, ground := Ground.data }], guard := none }) (v := ?_) rfl (by kernel_rfl) (by kernel_rfl) (by kernel_rfl) (fun _ _ _ h => h) (Or.inl ⟨by rfl, ?_⟩) (by assumption) ?_
    rotate_left
    · (intro w0 hSw; (try dsimp only at hSw); go_split_ands; go_simp; with_reducible rfl)
    try simp only [Act.put, List.setIfInBounds_toArray, List.set_cons_zero, List.set_cons_succ]
    refine wpAnyH_take (i := 12) (oi := { dst := some 52, op := Op.move (Operand.tmp 5), type := 3, pos := "stamp.go:115", after := #[], guard := none }) (v := ?_) rfl (by kernel_rfl) (by kernel_rfl) (by kernel_rfl) (fun _ _ _ h => h) (Or.inl ⟨by rfl, ?_⟩) (by assumption) ?_
    rotate_left
    · (intro w0 hSw; (try dsimp only at hSw); go_split_ands; go_simp; with_reducible rfl)
    try simp only [Act.put, List.setIfInBounds_toArray, List.set_cons_zero, List.set_cons_succ]
    refine wpAnyH_ready (rs := [10, 14]) (by kernel_rfl) (by simp) ?_
    refine AllReadyH.cons (o := { dst := some 50, op := Op.call { callee := Callee.value (Operand.func 34), args := #[Operand.tmp 41, Operand.tmp 42, Operand.tmp 49], argTypes := #[50, 44, 4] }, type := 24, pos := "stamp.go:115", after := #[{ on := 1, ground := Ground.data }, { on := 2, ground := Ground.data }, { on := 9, ground := Ground.data }], guard := none }) rfl (fun K hK => ?_) (AllReadyH.cons (o := { dst := some 7, op := Op.alloc 24, type := 0, pos := "stamp.go:115", after := #[], guard := none }) rfl (fun K hK => ?_) AllReadyH.nil)
    · go_simp
      go_at_call 34
      refine (joined_0 S _ _).mono ?_
      rintro e u1 ⟨rfl, hb⟩
      replace HI := Lib.hid (HI.out.past hb rfl rfl rfl rfl)
      unfold ck
      clear hb
      refine hK.out _ _ ⟨rowAt_cell HI.out.ex 0, rowAt_cell HI.out.ex 1, rowAt_cell HI.out.ex 2, rowAt_cell HI.out.ex 3, rowAt_cell HI.out.ex 4, rowAt_cell HI.out.ex 5, rowAt_cell HI.out.ex 6, rowAt_cell HI.out.ex 7, rowAt_cell HI.out.ex 8, rowAt_cell HI.out.en 0, rowAt_cell HI.out.en 1, rowAt_cell HI.out.en 2, rowAt_cell HI.out.en 3, rowAt_cell HI.out.kn.st 1, rowAt_cell HI.out.kn.yy 0⟩ (fun hHeld => ?_)
      clear hK K
      try simp only [Act.put, List.setIfInBounds_toArray, List.set_cons_zero, List.set_cons_succ]
      refine wpAnyH_ready (rs := [11, 14]) (by kernel_rfl) (by simp) ?_
      refine AllReadyH.cons (o := { dst := some 51, op := Op.call { callee := Callee.value (Operand.func 8), args := #[Operand.tmp 40, Operand.tmp 50], argTypes := #[24, 24] }, type := 24, pos := "stamp.go:115", after := #[{ on := 0, ground := Ground.data }, { on := 10, ground := Ground.data }, { on := 10, ground := Ground.chain }], guard := none }) rfl (fun K hK => ?_) (AllReadyH.cons (o := { dst := some 7, op := Op.alloc 24, type := 0, pos := "stamp.go:115", after := #[], guard := none }) rfl (fun K hK => ?_) AllReadyH.nil)
      · go_simp
        go_at_call 8
        refine (join_c 0 0 0 0 0 0 0 0 _).mono ?_
        rintro e u2 ⟨rfl, hb⟩
        replace HI := Lib.hid (HI.out.past hb rfl rfl rfl rfl)
        rw [show ck (max 0 0) (max 0 0) (max 0 0) (max 0 0) = ck 0 0 0 0 from by kernel_rfl]
        unfold ck
        clear hb
        refine hK.out _ _ ⟨rowAt_cell HI.out.ex 0, rowAt_cell HI.out.ex 1, rowAt_cell HI.out.ex 2, rowAt_cell HI.out.ex 3, rowAt_cell HI.out.ex 4, rowAt_cell HI.out.ex 5, rowAt_cell HI.out.ex 6, rowAt_cell HI.out.ex 7, rowAt_cell HI.out.ex 8, rowAt_cell HI.out.en 0, rowAt_cell HI.out.en 1, rowAt_cell HI.out.en 2, rowAt_cell HI.out.en 3, rowAt_cell HI.out.kn.st 1, rowAt_cell HI.out.kn.yy 0⟩ (fun hHeld => ?_)
        clear hK K
        try simp only [Act.put, List.setIfInBounds_toArray, List.set_cons_zero, List.set_cons_succ]
        refine wpAnyH_ready (rs := [13, 14]) (by kernel_rfl) (by simp) ?_
        refine AllReadyH.cons (o := { dst := some 53, op := Op.call { callee := Callee.value (Operand.func 10), args := #[Operand.tmp 51, Operand.tmp 52], argTypes := #[24, 3] }, type := 24, pos := "stamp.go:115", after := #[{ on := 11, ground := Ground.data }, { on := 12, ground := Ground.data }, { on := 11, ground := Ground.chain }], guard := none }) rfl (fun K hK => ?_) (AllReadyH.cons (o := { dst := some 7, op := Op.alloc 24, type := 0, pos := "stamp.go:115", after := #[], guard := none }) rfl (fun K hK => ?_) AllReadyH.nil)
        · go_simp
          go_at_call 10
          refine (tick_c 0 0 0 0 0 _).mono ?_
          rintro e u3 ⟨rfl, hb⟩
          replace HI := Lib.hid (HI.out.past hb rfl rfl rfl rfl)
          rw [show tkV 0 0 0 0 0 = ck 1 0 0 0 from by kernel_rfl]
          unfold ck
          clear hb
          refine hK.out _ _ ⟨rowAt_cell HI.out.ex 0, rowAt_cell HI.out.ex 1, rowAt_cell HI.out.ex 2, rowAt_cell HI.out.ex 3, rowAt_cell HI.out.ex 4, rowAt_cell HI.out.ex 5, rowAt_cell HI.out.ex 6, rowAt_cell HI.out.ex 7, rowAt_cell HI.out.ex 8, rowAt_cell HI.out.en 0, rowAt_cell HI.out.en 1, rowAt_cell HI.out.en 2, rowAt_cell HI.out.en 3, rowAt_cell HI.out.kn.st 1, rowAt_cell HI.out.kn.yy 0⟩ (fun hHeld => ?_)
          clear hK K
          try simp only [Act.put, List.setIfInBounds_toArray, List.set_cons_zero, List.set_cons_succ]
          refine wpAnyH_ready (rs := [14]) (by kernel_rfl) (by simp) ?_
          refine AllReadyH.cons (o := { dst := some 7, op := Op.alloc 24, type := 0, pos := "stamp.go:115", after := #[], guard := none }) rfl (fun K hK => ?_) AllReadyH.nil
          go_simp
          have HC : Hid (rowAt (u3.alloc (.cells #[.int .i64 0, .int .i64 0, .int .i64 0, .int .i64 0] 24)) u3.heap.size = some #[.int .i64 0, .int .i64 0, .int .i64 0, .int .i64 0]) := Lib.hid (rowAt_new _ _ _)
          have hxb : x < u3.heap.size := rowAt_lt HI.out.ex
          have hnb : nb < u3.heap.size := rowAt_lt HI.out.en
          have hwb : w.heap.size ≤ u3.heap.size := HI.out.bl.size
          replace HI := Lib.hid (HI.out.past ((Below.refl u3.heap.size u3).alloc (Nat.le_refl _) (.cells #[.int .i64 0, .int .i64 0, .int .i64 0, .int .i64 0] 24)) rfl rfl rfl rfl)
          refine hK.out _ _ ⟨rowAt_cell HI.out.ex 0, rowAt_cell HI.out.ex 1, rowAt_cell HI.out.ex 2, rowAt_cell HI.out.ex 3, rowAt_cell HI.out.ex 4, rowAt_cell HI.out.ex 5, rowAt_cell HI.out.ex 6, rowAt_cell HI.out.ex 7, rowAt_cell HI.out.ex 8, rowAt_cell HI.out.en 0, rowAt_cell HI.out.en 1, rowAt_cell HI.out.en 2, rowAt_cell HI.out.en 3, rowAt_cell HI.out.kn.st 1, rowAt_cell HI.out.kn.yy 0⟩ (fun hHeld => ?_)
          clear hK K
          try simp only [Act.put, List.setIfInBounds_toArray, List.set_cons_zero, List.set_cons_succ]
          generalize (u3.alloc (.cells #[.int .i64 0, .int .i64 0, .int .i64 0, .int .i64 0] 24)) = u4 at hHeld HC HI ⊢
          generalize u3.heap.size = cb at HC hxb hnb hwb ⊢
          refine wpAnyH_ready (rs := [15]) (by kernel_rfl) (by simp) ?_
          refine AllReadyH.cons (o := { dst := none, op := Op.store 24 (Operand.tmp 7) (Operand.tmp 53), type := 0, pos := "stamp.go:115", after := #[{ on := 14, ground := Ground.data }, { on := 13, ground := Ground.data }, { on := 13, ground := Ground.chain }, { on := 0, ground := Ground.phase }, { on := 1, ground := Ground.phase }, { on := 2, ground := Ground.phase }, { on := 3, ground := Ground.phase }, { on := 4, ground := Ground.phase }, { on := 5, ground := Ground.phase }, { on := 6, ground := Ground.phase }, { on := 7, ground := Ground.phase }, { on := 8, ground := Ground.phase }, { on := 9, ground := Ground.phase }, { on := 10, ground := Ground.phase }, { on := 11, ground := Ground.phase }, { on := 12, ground := Ground.phase }, { on := 13, ground := Ground.phase }, { on := 14, ground := Ground.phase }], guard := none }) rfl (fun K hK => ?_) AllReadyH.nil
          have z0 : u4.cell? ⟨cb, 0, none⟩ = some (.int .i64 0) := rowAt_cell HC.out 0
          have z1 : u4.cell? ⟨cb, 1, none⟩ = some (.int .i64 0) := rowAt_cell HC.out 1
          have z2 : u4.cell? ⟨cb, 2, none⟩ = some (.int .i64 0) := rowAt_cell HC.out 2
          have z3 : u4.cell? ⟨cb, 3, none⟩ = some (.int .i64 0) := rowAt_cell HC.out 3
          have f0 : u4.frozen? ⟨cb, 0, none⟩ = false := rowAt_frz HC.out 0
          have f1 : u4.frozen? ⟨cb, 1, none⟩ = false := rowAt_frz HC.out 1
          have f2 : u4.frozen? ⟨cb, 2, none⟩ = false := rowAt_frz HC.out 2
          have f3 : u4.frozen? ⟨cb, 3, none⟩ = false := rowAt_frz HC.out 3
          go_simp
          have HG : Hid (u4.grownBy ((((u4.setCell ⟨cb, 0, none⟩ (.int .i64 1)).setCell ⟨cb, 1, none⟩ (.int .i64 0)).setCell ⟨cb, 2, none⟩ (.int .i64 0)).setCell ⟨cb, 3, none⟩ (.int .i64 0)) (some cb)) := Lib.hid ((((grown_set _ ⟨cb, 0, none⟩ _).trans (grown_set _ ⟨cb, 1, none⟩ _)).trans (grown_set _ ⟨cb, 2, none⟩ _)).trans (grown_set _ ⟨cb, 3, none⟩ _))
          replace HC : Hid (rowAt ((((u4.setCell ⟨cb, 0, none⟩ (.int .i64 1)).setCell ⟨cb, 1, none⟩ (.int .i64 0)).setCell ⟨cb, 2, none⟩ (.int .i64 0)).setCell ⟨cb, 3, none⟩ (.int .i64 0)) cb = some #[.int .i64 1, .int .i64 0, .int .i64 0, .int .i64 0]) := Lib.hid (rowAt_set (rowAt_set (rowAt_set (rowAt_set HC.out 0 _) 1 _) 2 _) 3 _)
          replace HI := Lib.hid (HI.out.far HG.out HL.out HKl.out hwb hxb hnb HG.out.size)
          refine hK.out _ _ ⟨rowAt_cell HI.out.ex 0, rowAt_cell HI.out.ex 1, rowAt_cell HI.out.ex 2, rowAt_cell HI.out.ex 3, rowAt_cell HI.out.ex 4, rowAt_cell HI.out.ex 5, rowAt_cell HI.out.ex 6, rowAt_cell HI.out.ex 7, rowAt_cell HI.out.ex 8, rowAt_cell HI.out.en 0, rowAt_cell HI.out.en 1, rowAt_cell HI.out.en 2, rowAt_cell HI.out.en 3, rowAt_cell HI.out.kn.st 1, rowAt_cell HI.out.kn.yy 0⟩ (fun hHeld => ?_)
          clear hK K
          try simp only [Act.put, List.setIfInBounds_toArray, List.set_cons_zero, List.set_cons_succ]
          refine wpAnyH_done (by kernel_rfl) ?_ _
          clear hHeld
          go_wp2_with fail
          go_meet
          case rel => exact ⟨⟨cb, rfl, HC.out, hwb, by omega⟩, HI.out.kn, HI.out.ka, HI.out.ex, HI.out.bl⟩
        · go_simp
          have HC : Hid (rowAt (u2.alloc (.cells #[.int .i64 0, .int .i64 0, .int .i64 0, .int .i64 0] 24)) u2.heap.size = some #[.int .i64 0, .int .i64 0, .int .i64 0, .int .i64 0]) := Lib.hid (rowAt_new _ _ _)
          have hxb : x < u2.heap.size := rowAt_lt HI.out.ex
          have hnb : nb < u2.heap.size := rowAt_lt HI.out.en
          have hwb : w.heap.size ≤ u2.heap.size := HI.out.bl.size
          replace HI := Lib.hid (HI.out.past ((Below.refl u2.heap.size u2).alloc (Nat.le_refl _) (.cells #[.int .i64 0, .int .i64 0, .int .i64 0, .int .i64 0] 24)) rfl rfl rfl rfl)
          refine hK.out _ _ ⟨rowAt_cell HI.out.ex 0, rowAt_cell HI.out.ex 1, rowAt_cell HI.out.ex 2, rowAt_cell HI.out.ex 3, rowAt_cell HI.out.ex 4, rowAt_cell HI.out.ex 5, rowAt_cell HI.out.ex 6, rowAt_cell HI.out.ex 7, rowAt_cell HI.out.ex 8, rowAt_cell HI.out.en 0, rowAt_cell HI.out.en 1, rowAt_cell HI.out.en 2, rowAt_cell HI.out.en 3, rowAt_cell HI.out.kn.st 1, rowAt_cell HI.out.kn.yy 0⟩ (fun hHeld => ?_)
          clear hK K
          try simp only [Act.put, List.setIfInBounds_toArray, List.set_cons_zero, List.set_cons_succ]
          generalize (u2.alloc (.cells #[.int .i64 0, .int .i64 0, .int .i64 0, .int .i64 0] 24)) = u6 at hHeld HC HI ⊢
          generalize u2.heap.size = cb at HC hxb hnb hwb ⊢
          refine wpAnyH_ready (rs := [13]) (by kernel_rfl) (by simp) ?_
          refine AllReadyH.cons (o := { dst := some 53, op := Op.call { callee := Callee.value (Operand.func 10), args := #[Operand.tmp 51, Operand.tmp 52], argTypes := #[24, 3] }, type := 24, pos := "stamp.go:115", after := #[{ on := 11, ground := Ground.data }, { on := 12, ground := Ground.data }, { on := 11, ground := Ground.chain }], guard := none }) rfl (fun K hK => ?_) AllReadyH.nil
          go_simp
          go_at_call 10
          refine (tick_c 0 0 0 0 0 _).mono ?_
          rintro e u7 ⟨rfl, hb⟩
          replace HI := Lib.hid (HI.out.past hb rfl rfl rfl rfl)
          replace HC := Lib.hid (rowAt_below HC.out hb rfl)
          rw [show tkV 0 0 0 0 0 = ck 1 0 0 0 from by kernel_rfl]
          unfold ck
          clear hb
          refine hK.out _ _ ⟨rowAt_cell HI.out.ex 0, rowAt_cell HI.out.ex 1, rowAt_cell HI.out.ex 2, rowAt_cell HI.out.ex 3, rowAt_cell HI.out.ex 4, rowAt_cell HI.out.ex 5, rowAt_cell HI.out.ex 6, rowAt_cell HI.out.ex 7, rowAt_cell HI.out.ex 8, rowAt_cell HI.out.en 0, rowAt_cell HI.out.en 1, rowAt_cell HI.out.en 2, rowAt_cell HI.out.en 3, rowAt_cell HI.out.kn.st 1, rowAt_cell HI.out.kn.yy 0⟩ (fun hHeld => ?_)
          clear hK K
          try simp only [Act.put, List.setIfInBounds_toArray, List.set_cons_zero, List.set_cons_succ]
          refine wpAnyH_ready (rs := [15]) (by kernel_rfl) (by simp) ?_
          refine AllReadyH.cons (o := { dst := none, op := Op.store 24 (Operand.tmp 7) (Operand.tmp 53), type := 0, pos := "stamp.go:115", after := #[{ on := 14, ground := Ground.data }, { on := 13, ground := Ground.data }, { on := 13, ground := Ground.chain }, { on := 0, ground := Ground.phase }, { on := 1, ground := Ground.phase }, { on := 2, ground := Ground.phase }, { on := 3, ground := Ground.phase }, { on := 4, ground := Ground.phase }, { on := 5, ground := Ground.phase }, { on := 6, ground := Ground.phase }, { on := 7, ground := Ground.phase }, { on := 8, ground := Ground.phase }, { on := 9, ground := Ground.phase }, { on := 10, ground := Ground.phase }, { on := 11, ground := Ground.phase }, { on := 12, ground := Ground.phase }, { on := 13, ground := Ground.phase }, { on := 14, ground := Ground.phase }], guard := none }) rfl (fun K hK => ?_) AllReadyH.nil
          have z0 : u7.cell? ⟨cb, 0, none⟩ = some (.int .i64 0) := rowAt_cell HC.out 0
          have z1 : u7.cell? ⟨cb, 1, none⟩ = some (.int .i64 0) := rowAt_cell HC.out 1
          have z2 : u7.cell? ⟨cb, 2, none⟩ = some (.int .i64 0) := rowAt_cell HC.out 2
          have z3 : u7.cell? ⟨cb, 3, none⟩ = some (.int .i64 0) := rowAt_cell HC.out 3
          have f0 : u7.frozen? ⟨cb, 0, none⟩ = false := rowAt_frz HC.out 0
          have f1 : u7.frozen? ⟨cb, 1, none⟩ = false := rowAt_frz HC.out 1
          have f2 : u7.frozen? ⟨cb, 2, none⟩ = false := rowAt_frz HC.out 2
          have f3 : u7.frozen? ⟨cb, 3, none⟩ = false := rowAt_frz HC.out 3
          go_simp
          have HG : Hid (u7.grownBy ((((u7.setCell ⟨cb, 0, none⟩ (.int .i64 1)).setCell ⟨cb, 1, none⟩ (.int .i64 0)).setCell ⟨cb, 2, none⟩ (.int .i64 0)).setCell ⟨cb, 3, none⟩ (.int .i64 0)) (some cb)) := Lib.hid ((((grown_set _ ⟨cb, 0, none⟩ _).trans (grown_set _ ⟨cb, 1, none⟩ _)).trans (grown_set _ ⟨cb, 2, none⟩ _)).trans (grown_set _ ⟨cb, 3, none⟩ _))
          replace HC : Hid (rowAt ((((u7.setCell ⟨cb, 0, none⟩ (.int .i64 1)).setCell ⟨cb, 1, none⟩ (.int .i64 0)).setCell ⟨cb, 2, none⟩ (.int .i64 0)).setCell ⟨cb, 3, none⟩ (.int .i64 0)) cb = some #[.int .i64 1, .int .i64 0, .int .i64 0, .int .i64 0]) := Lib.hid (rowAt_set (rowAt_set (rowAt_set (rowAt_set HC.out 0 _) 1 _) 2 _) 3 _)
          replace HI := Lib.hid (HI.out.far HG.out HL.out HKl.out hwb hxb hnb HG.out.size)
          refine hK.out _ _ ⟨rowAt_cell HI.out.ex 0, rowAt_cell HI.out.ex 1, rowAt_cell HI.out.ex 2, rowAt_cell HI.out.ex 3, rowAt_cell HI.out.ex 4, rowAt_cell HI.out.ex 5, rowAt_cell HI.out.ex 6, rowAt_cell HI.out.ex 7, rowAt_cell HI.out.ex 8, rowAt_cell HI.out.en 0, rowAt_cell HI.out.en 1, rowAt_cell HI.out.en 2, rowAt_cell HI.out.en 3, rowAt_cell HI.out.kn.st 1, rowAt_cell HI.out.kn.yy 0⟩ (fun hHeld => ?_)
          clear hK K
          try simp only [Act.put, List.setIfInBounds_toArray, List.set_cons_zero, List.set_cons_succ]
          refine wpAnyH_done (by kernel_rfl) ?_ _
          clear hHeld
          go_wp2_with fail
          go_meet
          case rel => exact ⟨⟨cb, rfl, HC.out, hwb, by omega⟩, HI.out.kn, HI.out.ka, HI.out.ex, HI.out.bl⟩
      · go_simp
        have HC : Hid (rowAt (u1.alloc (.cells #[.int .i64 0, .int .i64 0, .int .i64 0, .int .i64 0] 24)) u1.heap.size = some #[.int .i64 0, .int .i64 0, .int .i64 0, .int .i64 0]) := Lib.hid (rowAt_new _ _ _)
        have hxb : x < u1.heap.size := rowAt_lt HI.out.ex
        have hnb : nb < u1.heap.size := rowAt_lt HI.out.en
        have hwb : w.heap.size ≤ u1.heap.size := HI.out.bl.size
        replace HI := Lib.hid (HI.out.past ((Below.refl u1.heap.size u1).alloc (Nat.le_refl _) (.cells #[.int .i64 0, .int .i64 0, .int .i64 0, .int .i64 0] 24)) rfl rfl rfl rfl)
        refine hK.out _ _ ⟨rowAt_cell HI.out.ex 0, rowAt_cell HI.out.ex 1, rowAt_cell HI.out.ex 2, rowAt_cell HI.out.ex 3, rowAt_cell HI.out.ex 4, rowAt_cell HI.out.ex 5, rowAt_cell HI.out.ex 6, rowAt_cell HI.out.ex 7, rowAt_cell HI.out.ex 8, rowAt_cell HI.out.en 0, rowAt_cell HI.out.en 1, rowAt_cell HI.out.en 2, rowAt_cell HI.out.en 3, rowAt_cell HI.out.kn.st 1, rowAt_cell HI.out.kn.yy 0⟩ (fun hHeld => ?_)
        clear hK K
        try simp only [Act.put, List.setIfInBounds_toArray, List.set_cons_zero, List.set_cons_succ]
        generalize (u1.alloc (.cells #[.int .i64 0, .int .i64 0, .int .i64 0, .int .i64 0] 24)) = u9 at hHeld HC HI ⊢
        generalize u1.heap.size = cb at HC hxb hnb hwb ⊢
        refine wpAnyH_ready (rs := [11]) (by kernel_rfl) (by simp) ?_
        refine AllReadyH.cons (o := { dst := some 51, op := Op.call { callee := Callee.value (Operand.func 8), args := #[Operand.tmp 40, Operand.tmp 50], argTypes := #[24, 24] }, type := 24, pos := "stamp.go:115", after := #[{ on := 0, ground := Ground.data }, { on := 10, ground := Ground.data }, { on := 10, ground := Ground.chain }], guard := none }) rfl (fun K hK => ?_) AllReadyH.nil
        go_simp
        go_at_call 8
        refine (join_c 0 0 0 0 0 0 0 0 _).mono ?_
        rintro e u10 ⟨rfl, hb⟩
        replace HI := Lib.hid (HI.out.past hb rfl rfl rfl rfl)
        replace HC := Lib.hid (rowAt_below HC.out hb rfl)
        rw [show ck (max 0 0) (max 0 0) (max 0 0) (max 0 0) = ck 0 0 0 0 from by kernel_rfl]
        unfold ck
        clear hb
        refine hK.out _ _ ⟨rowAt_cell HI.out.ex 0, rowAt_cell HI.out.ex 1, rowAt_cell HI.out.ex 2, rowAt_cell HI.out.ex 3, rowAt_cell HI.out.ex 4, rowAt_cell HI.out.ex 5, rowAt_cell HI.out.ex 6, rowAt_cell HI.out.ex 7, rowAt_cell HI.out.ex 8, rowAt_cell HI.out.en 0, rowAt_cell HI.out.en 1, rowAt_cell HI.out.en 2, rowAt_cell HI.out.en 3, rowAt_cell HI.out.kn.st 1, rowAt_cell HI.out.kn.yy 0⟩ (fun hHeld => ?_)
        clear hK K
        try simp only [Act.put, List.setIfInBounds_toArray, List.set_cons_zero, List.set_cons_succ]
        refine wpAnyH_ready (rs := [13]) (by kernel_rfl) (by simp) ?_
        refine AllReadyH.cons (o := { dst := some 53, op := Op.call { callee := Callee.value (Operand.func 10), args := #[Operand.tmp 51, Operand.tmp 52], argTypes := #[24, 3] }, type := 24, pos := "stamp.go:115", after := #[{ on := 11, ground := Ground.data }, { on := 12, ground := Ground.data }, { on := 11, ground := Ground.chain }], guard := none }) rfl (fun K hK => ?_) AllReadyH.nil
        go_simp
        go_at_call 10
        refine (tick_c 0 0 0 0 0 _).mono ?_
        rintro e u11 ⟨rfl, hb⟩
        replace HI := Lib.hid (HI.out.past hb rfl rfl rfl rfl)
        replace HC := Lib.hid (rowAt_below HC.out hb rfl)
        rw [show tkV 0 0 0 0 0 = ck 1 0 0 0 from by kernel_rfl]
        unfold ck
        clear hb
        refine hK.out _ _ ⟨rowAt_cell HI.out.ex 0, rowAt_cell HI.out.ex 1, rowAt_cell HI.out.ex 2, rowAt_cell HI.out.ex 3, rowAt_cell HI.out.ex 4, rowAt_cell HI.out.ex 5, rowAt_cell HI.out.ex 6, rowAt_cell HI.out.ex 7, rowAt_cell HI.out.ex 8, rowAt_cell HI.out.en 0, rowAt_cell HI.out.en 1, rowAt_cell HI.out.en 2, rowAt_cell HI.out.en 3, rowAt_cell HI.out.kn.st 1, rowAt_cell HI.out.kn.yy 0⟩ (fun hHeld => ?_)
        clear hK K
        try simp only [Act.put, List.setIfInBounds_toArray, List.set_cons_zero, List.set_cons_succ]
        refine wpAnyH_ready (rs := [15]) (by kernel_rfl) (by simp) ?_
        refine AllReadyH.cons (o := { dst := none, op := Op.store 24 (Operand.tmp 7) (Operand.tmp 53), type := 0, pos := "stamp.go:115", after := #[{ on := 14, ground := Ground.data }, { on := 13, ground := Ground.data }, { on := 13, ground := Ground.chain }, { on := 0, ground := Ground.phase }, { on := 1, ground := Ground.phase }, { on := 2, ground := Ground.phase }, { on := 3, ground := Ground.phase }, { on := 4, ground := Ground.phase }, { on := 5, ground := Ground.phase }, { on := 6, ground := Ground.phase }, { on := 7, ground := Ground.phase }, { on := 8, ground := Ground.phase }, { on := 9, ground := Ground.phase }, { on := 10, ground := Ground.phase }, { on := 11, ground := Ground.phase }, { on := 12, ground := Ground.phase }, { on := 13, ground := Ground.phase }, { on := 14, ground := Ground.phase }], guard := none }) rfl (fun K hK => ?_) AllReadyH.nil
        have z0 : u11.cell? ⟨cb, 0, none⟩ = some (.int .i64 0) := rowAt_cell HC.out 0
        have z1 : u11.cell? ⟨cb, 1, none⟩ = some (.int .i64 0) := rowAt_cell HC.out 1
        have z2 : u11.cell? ⟨cb, 2, none⟩ = some (.int .i64 0) := rowAt_cell HC.out 2
        have z3 : u11.cell? ⟨cb, 3, none⟩ = some (.int .i64 0) := rowAt_cell HC.out 3
        have f0 : u11.frozen? ⟨cb, 0, none⟩ = false := rowAt_frz HC.out 0
        have f1 : u11.frozen? ⟨cb, 1, none⟩ = false := rowAt_frz HC.out 1
        have f2 : u11.frozen? ⟨cb, 2, none⟩ = false := rowAt_frz HC.out 2
        have f3 : u11.frozen? ⟨cb, 3, none⟩ = false := rowAt_frz HC.out 3
        go_simp
        have HG : Hid (u11.grownBy ((((u11.setCell ⟨cb, 0, none⟩ (.int .i64 1)).setCell ⟨cb, 1, none⟩ (.int .i64 0)).setCell ⟨cb, 2, none⟩ (.int .i64 0)).setCell ⟨cb, 3, none⟩ (.int .i64 0)) (some cb)) := Lib.hid ((((grown_set _ ⟨cb, 0, none⟩ _).trans (grown_set _ ⟨cb, 1, none⟩ _)).trans (grown_set _ ⟨cb, 2, none⟩ _)).trans (grown_set _ ⟨cb, 3, none⟩ _))
        replace HC : Hid (rowAt ((((u11.setCell ⟨cb, 0, none⟩ (.int .i64 1)).setCell ⟨cb, 1, none⟩ (.int .i64 0)).setCell ⟨cb, 2, none⟩ (.int .i64 0)).setCell ⟨cb, 3, none⟩ (.int .i64 0)) cb = some #[.int .i64 1, .int .i64 0, .int .i64 0, .int .i64 0]) := Lib.hid (rowAt_set (rowAt_set (rowAt_set (rowAt_set HC.out 0 _) 1 _) 2 _) 3 _)
        replace HI := Lib.hid (HI.out.far HG.out HL.out HKl.out hwb hxb hnb HG.out.size)
        refine hK.out _ _ ⟨rowAt_cell HI.out.ex 0, rowAt_cell HI.out.ex 1, rowAt_cell HI.out.ex 2, rowAt_cell HI.out.ex 3, rowAt_cell HI.out.ex 4, rowAt_cell HI.out.ex 5, rowAt_cell HI.out.ex 6, rowAt_cell HI.out.ex 7, rowAt_cell HI.out.ex 8, rowAt_cell HI.out.en 0, rowAt_cell HI.out.en 1, rowAt_cell HI.out.en 2, rowAt_cell HI.out.en 3, rowAt_cell HI.out.kn.st 1, rowAt_cell HI.out.kn.yy 0⟩ (fun hHeld => ?_)
        clear hK K
        try simp only [Act.put, List.setIfInBounds_toArray, List.set_cons_zero, List.set_cons_succ]
        refine wpAnyH_done (by kernel_rfl) ?_ _
        clear hHeld
        go_wp2_with fail
        go_meet
        case rel => exact ⟨⟨cb, rfl, HC.out, hwb, by omega⟩, HI.out.kn, HI.out.ka, HI.out.ex, HI.out.bl⟩
    · go_simp
      have HC : Hid (rowAt (u.alloc (.cells #[.int .i64 0, .int .i64 0, .int .i64 0, .int .i64 0] 24)) u.heap.size = some #[.int .i64 0, .int .i64 0, .int .i64 0, .int .i64 0]) := Lib.hid (rowAt_new _ _ _)
      have hxb : x < u.heap.size := rowAt_lt HI.out.ex
      have hnb : nb < u.heap.size := rowAt_lt HI.out.en
      have hwb : w.heap.size ≤ u.heap.size := HI.out.bl.size
      replace HI := Lib.hid (HI.out.past ((Below.refl u.heap.size u).alloc (Nat.le_refl _) (.cells #[.int .i64 0, .int .i64 0, .int .i64 0, .int .i64 0] 24)) rfl rfl rfl rfl)
      refine hK.out _ _ ⟨rowAt_cell HI.out.ex 0, rowAt_cell HI.out.ex 1, rowAt_cell HI.out.ex 2, rowAt_cell HI.out.ex 3, rowAt_cell HI.out.ex 4, rowAt_cell HI.out.ex 5, rowAt_cell HI.out.ex 6, rowAt_cell HI.out.ex 7, rowAt_cell HI.out.ex 8, rowAt_cell HI.out.en 0, rowAt_cell HI.out.en 1, rowAt_cell HI.out.en 2, rowAt_cell HI.out.en 3, rowAt_cell HI.out.kn.st 1, rowAt_cell HI.out.kn.yy 0⟩ (fun hHeld => ?_)
      clear hK K
      try simp only [Act.put, List.setIfInBounds_toArray, List.set_cons_zero, List.set_cons_succ]
      generalize (u.alloc (.cells #[.int .i64 0, .int .i64 0, .int .i64 0, .int .i64 0] 24)) = u13 at hHeld HC HI ⊢
      generalize u.heap.size = cb at HC hxb hnb hwb ⊢
      refine wpAnyH_ready (rs := [10]) (by kernel_rfl) (by simp) ?_
      refine AllReadyH.cons (o := { dst := some 50, op := Op.call { callee := Callee.value (Operand.func 34), args := #[Operand.tmp 41, Operand.tmp 42, Operand.tmp 49], argTypes := #[50, 44, 4] }, type := 24, pos := "stamp.go:115", after := #[{ on := 1, ground := Ground.data }, { on := 2, ground := Ground.data }, { on := 9, ground := Ground.data }], guard := none }) rfl (fun K hK => ?_) AllReadyH.nil
      go_simp
      go_at_call 34
      refine (joined_0 S _ _).mono ?_
      rintro e u14 ⟨rfl, hb⟩
      replace HI := Lib.hid (HI.out.past hb rfl rfl rfl rfl)
      replace HC := Lib.hid (rowAt_below HC.out hb rfl)
      unfold ck
      clear hb
      refine hK.out _ _ ⟨rowAt_cell HI.out.ex 0, rowAt_cell HI.out.ex 1, rowAt_cell HI.out.ex 2, rowAt_cell HI.out.ex 3, rowAt_cell HI.out.ex 4, rowAt_cell HI.out.ex 5, rowAt_cell HI.out.ex 6, rowAt_cell HI.out.ex 7, rowAt_cell HI.out.ex 8, rowAt_cell HI.out.en 0, rowAt_cell HI.out.en 1, rowAt_cell HI.out.en 2, rowAt_cell HI.out.en 3, rowAt_cell HI.out.kn.st 1, rowAt_cell HI.out.kn.yy 0⟩ (fun hHeld => ?_)
      clear hK K
      try simp only [Act.put, List.setIfInBounds_toArray, List.set_cons_zero, List.set_cons_succ]
      refine wpAnyH_ready (rs := [11]) (by kernel_rfl) (by simp) ?_
      refine AllReadyH.cons (o := { dst := some 51, op := Op.call { callee := Callee.value (Operand.func 8), args := #[Operand.tmp 40, Operand.tmp 50], argTypes := #[24, 24] }, type := 24, pos := "stamp.go:115", after := #[{ on := 0, ground := Ground.data }, { on := 10, ground := Ground.data }, { on := 10, ground := Ground.chain }], guard := none }) rfl (fun K hK => ?_) AllReadyH.nil
      go_simp
      go_at_call 8
      refine (join_c 0 0 0 0 0 0 0 0 _).mono ?_
      rintro e u15 ⟨rfl, hb⟩
      replace HI := Lib.hid (HI.out.past hb rfl rfl rfl rfl)
      replace HC := Lib.hid (rowAt_below HC.out hb rfl)
      rw [show ck (max 0 0) (max 0 0) (max 0 0) (max 0 0) = ck 0 0 0 0 from by kernel_rfl]
      unfold ck
      clear hb
      refine hK.out _ _ ⟨rowAt_cell HI.out.ex 0, rowAt_cell HI.out.ex 1, rowAt_cell HI.out.ex 2, rowAt_cell HI.out.ex 3, rowAt_cell HI.out.ex 4, rowAt_cell HI.out.ex 5, rowAt_cell HI.out.ex 6, rowAt_cell HI.out.ex 7, rowAt_cell HI.out.ex 8, rowAt_cell HI.out.en 0, rowAt_cell HI.out.en 1, rowAt_cell HI.out.en 2, rowAt_cell HI.out.en 3, rowAt_cell HI.out.kn.st 1, rowAt_cell HI.out.kn.yy 0⟩ (fun hHeld => ?_)
      clear hK K
      try simp only [Act.put, List.setIfInBounds_toArray, List.set_cons_zero, List.set_cons_succ]
      refine wpAnyH_ready (rs := [13]) (by kernel_rfl) (by simp) ?_
      refine AllReadyH.cons (o := { dst := some 53, op := Op.call { callee := Callee.value (Operand.func 10), args := #[Operand.tmp 51, Operand.tmp 52], argTypes := #[24, 3] }, type := 24, pos := "stamp.go:115", after := #[{ on := 11, ground := Ground.data }, { on := 12, ground := Ground.data }, { on := 11, ground := Ground.chain }], guard := none }) rfl (fun K hK => ?_) AllReadyH.nil
      go_simp
      go_at_call 10
      refine (tick_c 0 0 0 0 0 _).mono ?_
      rintro e u16 ⟨rfl, hb⟩
      replace HI := Lib.hid (HI.out.past hb rfl rfl rfl rfl)
      replace HC := Lib.hid (rowAt_below HC.out hb rfl)
      rw [show tkV 0 0 0 0 0 = ck 1 0 0 0 from by kernel_rfl]
      unfold ck
      clear hb
      refine hK.out _ _ ⟨rowAt_cell HI.out.ex 0, rowAt_cell HI.out.ex 1, rowAt_cell HI.out.ex 2, rowAt_cell HI.out.ex 3, rowAt_cell HI.out.ex 4, rowAt_cell HI.out.ex 5, rowAt_cell HI.out.ex 6, rowAt_cell HI.out.ex 7, rowAt_cell HI.out.ex 8, rowAt_cell HI.out.en 0, rowAt_cell HI.out.en 1, rowAt_cell HI.out.en 2, rowAt_cell HI.out.en 3, rowAt_cell HI.out.kn.st 1, rowAt_cell HI.out.kn.yy 0⟩ (fun hHeld => ?_)
      clear hK K
      try simp only [Act.put, List.setIfInBounds_toArray, List.set_cons_zero, List.set_cons_succ]
      refine wpAnyH_ready (rs := [15]) (by kernel_rfl) (by simp) ?_
      refine AllReadyH.cons (o := { dst := none, op := Op.store 24 (Operand.tmp 7) (Operand.tmp 53), type := 0, pos := "stamp.go:115", after := #[{ on := 14, ground := Ground.data }, { on := 13, ground := Ground.data }, { on := 13, ground := Ground.chain }, { on := 0, ground := Ground.phase }, { on := 1, ground := Ground.phase }, { on := 2, ground := Ground.phase }, { on := 3, ground := Ground.phase }, { on := 4, ground := Ground.phase }, { on := 5, ground := Ground.phase }, { on := 6, ground := Ground.phase }, { on := 7, ground := Ground.phase }, { on := 8, ground := Ground.phase }, { on := 9, ground := Ground.phase }, { on := 10, ground := Ground.phase }, { on := 11, ground := Ground.phase }, { on := 12, ground := Ground.phase }, { on := 13, ground := Ground.phase }, { on := 14, ground := Ground.phase }], guard := none }) rfl (fun K hK => ?_) AllReadyH.nil
      have z0 : u16.cell? ⟨cb, 0, none⟩ = some (.int .i64 0) := rowAt_cell HC.out 0
      have z1 : u16.cell? ⟨cb, 1, none⟩ = some (.int .i64 0) := rowAt_cell HC.out 1
      have z2 : u16.cell? ⟨cb, 2, none⟩ = some (.int .i64 0) := rowAt_cell HC.out 2
      have z3 : u16.cell? ⟨cb, 3, none⟩ = some (.int .i64 0) := rowAt_cell HC.out 3
      have f0 : u16.frozen? ⟨cb, 0, none⟩ = false := rowAt_frz HC.out 0
      have f1 : u16.frozen? ⟨cb, 1, none⟩ = false := rowAt_frz HC.out 1
      have f2 : u16.frozen? ⟨cb, 2, none⟩ = false := rowAt_frz HC.out 2
      have f3 : u16.frozen? ⟨cb, 3, none⟩ = false := rowAt_frz HC.out 3
      go_simp
      have HG : Hid (u16.grownBy ((((u16.setCell ⟨cb, 0, none⟩ (.int .i64 1)).setCell ⟨cb, 1, none⟩ (.int .i64 0)).setCell ⟨cb, 2, none⟩ (.int .i64 0)).setCell ⟨cb, 3, none⟩ (.int .i64 0)) (some cb)) := Lib.hid ((((grown_set _ ⟨cb, 0, none⟩ _).trans (grown_set _ ⟨cb, 1, none⟩ _)).trans (grown_set _ ⟨cb, 2, none⟩ _)).trans (grown_set _ ⟨cb, 3, none⟩ _))
      replace HC : Hid (rowAt ((((u16.setCell ⟨cb, 0, none⟩ (.int .i64 1)).setCell ⟨cb, 1, none⟩ (.int .i64 0)).setCell ⟨cb, 2, none⟩ (.int .i64 0)).setCell ⟨cb, 3, none⟩ (.int .i64 0)) cb = some #[.int .i64 1, .int .i64 0, .int .i64 0, .int .i64 0]) := Lib.hid (rowAt_set (rowAt_set (rowAt_set (rowAt_set HC.out 0 _) 1 _) 2 _) 3 _)
      replace HI := Lib.hid (HI.out.far HG.out HL.out HKl.out hwb hxb hnb HG.out.size)
      refine hK.out _ _ ⟨rowAt_cell HI.out.ex 0, rowAt_cell HI.out.ex 1, rowAt_cell HI.out.ex 2, rowAt_cell HI.out.ex 3, rowAt_cell HI.out.ex 4, rowAt_cell HI.out.ex 5, rowAt_cell HI.out.ex 6, rowAt_cell HI.out.ex 7, rowAt_cell HI.out.ex 8, rowAt_cell HI.out.en 0, rowAt_cell HI.out.en 1, rowAt_cell HI.out.en 2, rowAt_cell HI.out.en 3, rowAt_cell HI.out.kn.st 1, rowAt_cell HI.out.kn.yy 0⟩ (fun hHeld => ?_)
      clear hK K
      try simp only [Act.put, List.setIfInBounds_toArray, List.set_cons_zero, List.set_cons_succ]
      refine wpAnyH_done (by kernel_rfl) ?_ _
      clear hHeld
      go_wp2_with fail
      go_meet
      case rel => exact ⟨⟨cb, rfl, HC.out, hwb, by omega⟩, HI.out.kn, HI.out.ka, HI.out.ex, HI.out.bl⟩
  case rest =>
    obtain ⟨⟨cb, hs, hC, hwb, hbx⟩, hkn, hka, hex, hbl⟩ := hcut
    subst hs
    have hx : x = w.heap.size := HX.out
    have HP : Hid (Pt E Y R S K g0 p0 g1 p1 x cb (SA0 E Y R K m1 m2) #[.int .i64 0, .int .i64 0, .int .i64 0, .int .i64 0, .int .i64 0, .int .i64 0, .int .i64 0, .int .i64 0, .int .i64 0, .int .i64 0, .int .i64 0, .int .i64 0] #[.int .i64 0, .int .i64 5, .int .i64 0, .int .i64 0, .int .i64 1, .bool false, .int .i64 0, .int .i64 0, .int .i64 1] #[.int .i64 1, .int .i64 0, .int .i64 0, .int .i64 0] w wc) := Lib.hid ⟨hkn, hka, hex, hC, fun B _ _ h => hbl.mono h, by have h1 := HL.out.2.2.2.1; have h2 := HKl.out; exact ⟨by omega, by omega, by omega, by omega, hKS⟩, hls, hlk⟩
    clear hkn hka hex hbl hC hwb hbx HI HL HKl HX hx
    go_wp2
    refine wp_region_held_drew (S := (fun w' => w'.cell? ⟨cb, 0, none⟩ = some (.int .i64 1) ∧ w'.cell? ⟨cb, 1, none⟩ = some (.int .i64 0) ∧ w'.cell? ⟨cb, 2, none⟩ = some (.int .i64 0) ∧ w'.cell? ⟨cb, 3, none⟩ = some (.int .i64 0) ∧ w'.cell? ⟨S, 41, none⟩ = some (.slice (some ⟨K, 0, none⟩) 3 3))) (by kernel_rfl) ⟨rowAt_cell HP.out.ec 0, rowAt_cell HP.out.ec 1, rowAt_cell HP.out.ec 2, rowAt_cell HP.out.ec 3, rowAt_cell HP.out.kn.st 41⟩ (fun hHeld => ?_)
    replace HP := Lib.hid HP.out.same
    generalize wc.drew = v at hHeld HP ⊢
    refine wpAnyH_take (i := 0) (oi := { dst := some 54, op := Op.move (Operand.tmp 0), type := 50, pos := "stamp.go:116", after := #[], guard := none }) (v := ?_) rfl (by kernel_rfl) (by kernel_rfl) (by kernel_rfl) (fun _ _ _ h => h) (Or.inl ⟨by rfl, ?_⟩) (by assumption) ?_
    rotate_left
    · (intro w9 hSw; (try dsimp only at hSw); go_split_ands; go_simp; with_reducible rfl)
    try simp only [Act.put, List.setIfInBounds_toArray, List.set_cons_zero, List.set_cons_succ]
    refine wpAnyH_take (i := 1) (oi := { dst := some 55, op := Op.move (Operand.tmp 5), type := 3, pos := "stamp.go:116", after := #[], guard := none }) (v := ?_) rfl (by kernel_rfl) (by kernel_rfl) (by kernel_rfl) (fun _ _ _ h => h) (Or.inl ⟨by rfl, ?_⟩) (by assumption) ?_
    rotate_left
    · (intro w9 hSw; (try dsimp only at hSw); go_split_ands; go_simp; with_reducible rfl)
    try simp only [Act.put, List.setIfInBounds_toArray, List.set_cons_zero, List.set_cons_succ]
    refine wpAnyH_take (i := 2) (oi := { dst := some 56, op := Op.move (Operand.tmp 0), type := 50, pos := "stamp.go:116", after := #[], guard := none }) (v := ?_) rfl (by kernel_rfl) (by kernel_rfl) (by kernel_rfl) (fun _ _ _ h => h) (Or.inl ⟨by rfl, ?_⟩) (by assumption) ?_
    rotate_left
    · (intro w9 hSw; (try dsimp only at hSw); go_split_ands; go_simp; with_reducible rfl)
    try simp only [Act.put, List.setIfInBounds_toArray, List.set_cons_zero, List.set_cons_succ]
    refine wpAnyH_take (i := 3) (oi := { dst := some 57, op := Op.nilCheck (Operand.tmp 56), type := 0, pos := "stamp.go:116", after := #[{ on := 2, ground := Ground.data }], guard := none }) (v := ?_) rfl (by kernel_rfl) (by kernel_rfl) (by kernel_rfl) (fun _ _ _ h => h) (Or.inl ⟨by rfl, ?_⟩) (by assumption) ?_
    rotate_left
    · (intro w9 hSw; (try dsimp only at hSw); go_split_ands; go_simp; with_reducible rfl)
    try simp only [Act.put, List.setIfInBounds_toArray, List.set_cons_zero, List.set_cons_succ]
    refine wpAnyH_take (i := 4) (oi := { dst := some 58, op := Op.fieldAddr 59 (Operand.tmp 57) 8, type := 0, pos := "stamp.go:116", after := #[{ on := 3, ground := Ground.data }], guard := none }) (v := ?_) rfl (by kernel_rfl) (by kernel_rfl) (by kernel_rfl) (fun _ _ _ h => h) (Or.inl ⟨by rfl, ?_⟩) (by assumption) ?_
    rotate_left
    · (intro w9 hSw; (try dsimp only at hSw); go_split_ands; go_simp; with_reducible rfl)
    try simp only [Act.put, List.setIfInBounds_toArray, List.set_cons_zero, List.set_cons_succ]
    refine wpAnyH_take (i := 5) (oi := { dst := some 59, op := Op.load 37 (Operand.tmp 58), type := 37, pos := "stamp.go:116", after := #[{ on := 4, ground := Ground.data }], guard := none }) (v := ?_) rfl (by kernel_rfl) (by kernel_rfl) (by kernel_rfl) (fun _ _ _ h => h) (Or.inl ⟨by rfl, ?_⟩) (by assumption) ?_
    rotate_left
    · (intro w9 hSw; (try dsimp only at hSw); go_split_ands; go_simp; with_reducible rfl)
    try simp only [Act.put, List.setIfInBounds_toArray, List.set_cons_zero, List.set_cons_succ]
    refine wpAnyH_take (i := 6) (oi := { dst := some 60, op := Op.move (Operand.tmp 1), type := 3, pos := "stamp.go:116", after := #[{ on := 12, ground := Ground.gcOnly Departure.lateStores }], guard := none }) (v := ?_) rfl (by kernel_rfl) (by kernel_rfl) (by kernel_rfl) (fun _ _ _ h => h) (Or.inl ⟨by rfl, ?_⟩) (by assumption) ?_
    rotate_left
    · (intro w9 hSw; (try dsimp only at hSw); go_split_ands; go_simp; with_reducible rfl)
    try simp only [Act.put, List.setIfInBounds_toArray, List.set_cons_zero, List.set_cons_succ]
    refine wpAnyH_take (i := 7) (oi := { dst := some 61, op := Op.load 24 (Operand.tmp 7), type := 24, pos := "stamp.go:116", after := #[], guard := none }) (v := ?_) rfl (by kernel_rfl) (by kernel_rfl) (by kernel_rfl) (fun _ _ _ h => h) (Or.inl ⟨by rfl, ?_⟩) (by assumption) ?_
    rotate_left
    · (intro w9 hSw; (try dsimp only at hSw); go_split_ands; go_simp; with_reducible rfl)
    try simp only [Act.put, List.setIfInBounds_toArray, List.set_cons_zero, List.set_cons_succ]
    refine wpAnyH_take (i := 8) (oi := { dst := some 62, op := Op.load 24 (Operand.tmp 7), type := 24, pos := "stamp.go:116", after := #[{ on := 12, ground := Ground.gcOnly Departure.lateStores }], guard := none }) (v := ?_) rfl (by kernel_rfl) (by kernel_rfl) (by kernel_rfl) (fun _ _ _ h => h) (Or.inl ⟨by rfl, ?_⟩) (by assumption) ?_
    rotate_left
    · (intro w9 hSw; (try dsimp only at hSw); go_split_ands; go_simp; with_reducible rfl)
    try simp only [Act.put, List.setIfInBounds_toArray, List.set_cons_zero, List.set_cons_succ]
    refine wpAnyH_take (i := 9) (oi := { dst := some 63, op := Op.nilCheck (Operand.tmp 54), type := 0, pos := "stamp.go:116", after := #[{ on := 0, ground := Ground.data }], guard := none }) (v := ?_) rfl (by kernel_rfl) (by kernel_rfl) (by kernel_rfl) (fun _ _ _ h => h) (Or.inl ⟨by rfl, ?_⟩) (by assumption) ?_
    rotate_left
    · (intro w9 hSw; (try dsimp only at hSw); go_split_ands; go_simp; with_reducible rfl)
    try simp only [Act.put, List.setIfInBounds_toArray, List.set_cons_zero, List.set_cons_succ]
    refine wpAnyH_take (i := 10) (oi := { dst := some 64, op := Op.fieldAddr 59 (Operand.tmp 63) 4, type := 0, pos := "stamp.go:116", after := #[{ on := 9, ground := Ground.data }], guard := none }) (v := ?_) rfl (by kernel_rfl) (by kernel_rfl) (by kernel_rfl) (fun _ _ _ h => h) (Or.inl ⟨by rfl, ?_⟩) (by assumption) ?_
    rotate_left
    · (intro w9 hSw; (try dsimp only at hSw); go_split_ands; go_simp; with_reducible rfl)
    try simp only [Act.put, List.setIfInBounds_toArray, List.set_cons_zero, List.set_cons_succ]
    refine wpAnyH_take (i := 11) (oi := { dst := some 65, op := Op.indexAddr 57 (Operand.tmp 64) (Operand.tmp 55), type := 0, pos := "stamp.go:116", after := #[{ on := 10, ground := Ground.data }, { on := 1, ground := Ground.data }, { on := 0, ground := Ground.phase }, { on := 1, ground := Ground.phase }, { on := 2, ground := Ground.textOnly Departure.lateStores }, { on := 3, ground := Ground.textOnly Departure.lateStoresUnsure }, { on := 4, ground := Ground.textOnly Departure.lateStoresUnsure }, { on := 5, ground := Ground.phase }, { on := 6, ground := Ground.textOnly Departure.lateStores }, { on := 7, ground := Ground.phase }, { on := 8, ground := Ground.textOnly Departure.lateStores }], guard := none }) (v := ?_) rfl (by kernel_rfl) (by kernel_rfl) (by kernel_rfl) (fun _ _ _ h => h) (Or.inl ⟨by rfl, ?_⟩) (by assumption) ?_
    rotate_left
    · (intro w9 hSw; (try dsimp only at hSw); go_split_ands; go_simp; with_reducible rfl)
    try simp only [Act.put, List.setIfInBounds_toArray, List.set_cons_zero, List.set_cons_succ]
    refine wpAnyH_ready (rs := [12]) (by kernel_rfl) (by simp) ?_
    refine AllReadyH.cons (o := { dst := none, op := Op.store 24 (Operand.tmp 65) (Operand.tmp 61), type := 0, pos := "stamp.go:116", after := #[{ on := 11, ground := Ground.data }, { on := 7, ground := Ground.data }, { on := 0, ground := Ground.phase }, { on := 1, ground := Ground.phase }, { on := 2, ground := Ground.textOnly Departure.lateStores }, { on := 3, ground := Ground.textOnly Departure.lateStoresUnsure }, { on := 4, ground := Ground.textOnly Departure.lateStoresUnsure }, { on := 5, ground := Ground.phase }, { on := 6, ground := Ground.textOnly Departure.lateStores }, { on := 7, ground := Ground.phase }, { on := 8, ground := Ground.textOnly Departure.lateStores }], guard := none }) rfl (fun K' hK => ?_) AllReadyH.nil
    have z0 : v.cell? ⟨S, 7, none⟩ = some (.int .i64 0) := rowAt_cell HP.out.kn.st 7
    have z1 : v.cell? ⟨S, 8, none⟩ = some (.int .i64 0) := rowAt_cell HP.out.kn.st 8
    have z2 : v.cell? ⟨S, 9, none⟩ = some (.int .i64 0) := rowAt_cell HP.out.kn.st 9
    have z3 : v.cell? ⟨S, 10, none⟩ = some (.int .i64 0) := rowAt_cell HP.out.kn.st 10
    have f0 : v.frozen? ⟨S, 7, none⟩ = false := rowAt_frz HP.out.kn.st 7
    have f1 : v.frozen? ⟨S, 8, none⟩ = false := rowAt_frz HP.out.kn.st 8
    have f2 : v.frozen? ⟨S, 9, none⟩ = false := rowAt_frz HP.out.kn.st 9
    have f3 : v.frozen? ⟨S, 10, none⟩ = false := rowAt_frz HP.out.kn.st 10
    go_simp
    clear z0 f0 z1 f1 z2 f2 z3 f3
    replace HP := Lib.hid (HP.out.putS (w' := ((((v.setCell ⟨S, 7, none⟩ (.int .i64 1)).setCell ⟨S, 8, none⟩ (.int .i64 0)).setCell ⟨S, 9, none⟩ (.int .i64 0)).setCell ⟨S, 10, none⟩ (.int .i64 0))) (SA' := SN0 E Y R K m1 m2) ((((grown_set _ ⟨S, 7, none⟩ _).trans (grown_set _ ⟨S, 8, none⟩ _)).trans (grown_set _ ⟨S, 9, none⟩ _)).trans (grown_set _ ⟨S, 10, none⟩ _)) ((rowAt_set (rowAt_set (rowAt_set (rowAt_set HP.out.kn.st 7 _) 8 _) 9 _) 10 _).trans (by kernel_rfl)) rfl rfl rfl)
    refine hK.out _ _ ⟨rowAt_cell HP.out.ec 0, rowAt_cell HP.out.ec 1, rowAt_cell HP.out.ec 2, rowAt_cell HP.out.ec 3, rowAt_cell HP.out.kn.st 41⟩ (fun hHeld => ?_)
    clear hK K'
    try simp only [Act.put, List.setIfInBounds_toArray, List.set_cons_zero, List.set_cons_succ]
    generalize ((((v.setCell ⟨S, 7, none⟩ (.int .i64 1)).setCell ⟨S, 8, none⟩ (.int .i64 0)).setCell ⟨S, 9, none⟩ (.int .i64 0)).setCell ⟨S, 10, none⟩ (.int .i64 0)) = v1 at hHeld HP ⊢
    refine wpAnyH_take (i := 13) (oi := { dst := some 66, op := Op.indexAddr 37 (Operand.tmp 59) (Operand.tmp 60), type := 0, pos := "stamp.go:116", after := #[{ on := 5, ground := Ground.data }, { on := 6, ground := Ground.data }, { on := 0, ground := Ground.phase }, { on := 1, ground := Ground.phase }, { on := 2, ground := Ground.phase }, { on := 3, ground := Ground.phase }, { on := 4, ground := Ground.phase }, { on := 5, ground := Ground.phase }, { on := 6, ground := Ground.phase }, { on := 7, ground := Ground.phase }, { on := 8, ground := Ground.phase }, { on := 9, ground := Ground.phase }, { on := 10, ground := Ground.phase }, { on := 11, ground := Ground.phase }, { on := 12, ground := Ground.phase }], guard := none }) (v := ?_) rfl (by kernel_rfl) (by kernel_rfl) (by kernel_rfl) (fun _ _ _ h => h) (Or.inl ⟨by rfl, ?_⟩) (by assumption) ?_
    rotate_left
    · (intro w9 hSw; (try dsimp only at hSw); go_split_ands; go_simp; with_reducible rfl)
    try simp only [Act.put, List.setIfInBounds_toArray, List.set_cons_zero, List.set_cons_succ]
    refine wpAnyH_ready (rs := [14]) (by kernel_rfl) (by simp) ?_
    refine AllReadyH.cons (o := { dst := none, op := Op.store 24 (Operand.tmp 66) (Operand.tmp 62), type := 0, pos := "stamp.go:116", after := #[{ on := 13, ground := Ground.data }, { on := 8, ground := Ground.data }, { on := 12, ground := Ground.chain }, { on := 0, ground := Ground.phase }, { on := 1, ground := Ground.phase }, { on := 2, ground := Ground.phase }, { on := 3, ground := Ground.phase }, { on := 4, ground := Ground.phase }, { on := 5, ground := Ground.phase }, { on := 6, ground := Ground.phase }, { on := 7, ground := Ground.phase }, { on := 8, ground := Ground.phase }, { on := 9, ground := Ground.phase }, { on := 10, ground := Ground.phase }, { on := 11, ground := Ground.phase }, { on := 12, ground := Ground.phase }], guard := none }) rfl (fun K' hK => ?_) AllReadyH.nil
    have z0 : v1.cell? ⟨K, 0, none⟩ = some (.int .i64 0) := rowAt_cell HP.out.ka 0
    have z1 : v1.cell? ⟨K, 1, none⟩ = some (.int .i64 0) := rowAt_cell HP.out.ka 1
    have z2 : v1.cell? ⟨K, 2, none⟩ = some (.int .i64 0) := rowAt_cell HP.out.ka 2
    have z3 : v1.cell? ⟨K, 3, none⟩ = some (.int .i64 0) := rowAt_cell HP.out.ka 3
    have f0 : v1.frozen? ⟨K, 0, none⟩ = false := rowAt_frz HP.out.ka 0
    have f1 : v1.frozen? ⟨K, 1, none⟩ = false := rowAt_frz HP.out.ka 1
    have f2 : v1.frozen? ⟨K, 2, none⟩ = false := rowAt_frz HP.out.ka 2
    have f3 : v1.frozen? ⟨K, 3, none⟩ = false := rowAt_frz HP.out.ka 3
    go_simp
    clear z0 f0 z1 f1 z2 f2 z3 f3
    replace HP := Lib.hid (HP.out.putK (w' := ((((v1.setCell ⟨K, 0, none⟩ (.int .i64 1)).setCell ⟨K, 1, none⟩ (.int .i64 0)).setCell ⟨K, 2, none⟩ (.int .i64 0)).setCell ⟨K, 3, none⟩ (.int .i64 0))) (KA' := #[.int .i64 1, .int .i64 0, .int .i64 0, .int .i64 0, .int .i64 0, .int .i64 0, .int .i64 0, .int .i64 0, .int .i64 0, .int .i64 0, .int .i64 0, .int .i64 0]) ((((grown_set _ ⟨K, 0, none⟩ _).trans (grown_set _ ⟨K, 1, none⟩ _)).trans (grown_set _ ⟨K, 2, none⟩ _)).trans (grown_set _ ⟨K, 3, none⟩ _)) ((rowAt_set (rowAt_set (rowAt_set (rowAt_set HP.out.ka 0 _) 1 _) 2 _) 3 _).trans (by kernel_rfl)))
    refine hK.out _ _ ⟨rowAt_cell HP.out.ec 0, rowAt_cell HP.out.ec 1, rowAt_cell HP.out.ec 2, rowAt_cell HP.out.ec 3, rowAt_cell HP.out.kn.st 41⟩ (fun hHeld => ?_)
    clear hK K'
    try simp only [Act.put, List.setIfInBounds_toArray, List.set_cons_zero, List.set_cons_succ]
    generalize ((((v1.setCell ⟨K, 0, none⟩ (.int .i64 1)).setCell ⟨K, 1, none⟩ (.int .i64 0)).setCell ⟨K, 2, none⟩ (.int .i64 0)).setCell ⟨K, 3, none⟩ (.int .i64 0)) = v2 at hHeld HP ⊢
    refine wpAnyH_done (by kernel_rfl) ?_ _
    clear hHeld
    go_wp2
    refine wp_region_held_drew (S := (fun w' => w'.cell? ⟨cb, 0, none⟩ = some (.int .i64 1) ∧ w'.cell? ⟨cb, 1, none⟩ = some (.int .i64 0) ∧ w'.cell? ⟨cb, 2, none⟩ = some (.int .i64 0) ∧ w'.cell? ⟨cb, 3, none⟩ = some (.int .i64 0) ∧ w'.cell? ⟨S, 41, none⟩ = some (.slice (some ⟨K, 0, none⟩) 3 3))) (by kernel_rfl) ⟨rowAt_cell HP.out.ec 0, rowAt_cell HP.out.ec 1, rowAt_cell HP.out.ec 2, rowAt_cell HP.out.ec 3, rowAt_cell HP.out.kn.st 41⟩ (fun hHeld => ?_)
    replace HP := Lib.hid HP.out.same
    generalize hv7 : World.drew _ = v7 at hHeld HP ⊢
    clear hv7
    refine wpAnyH_take (i := 0) (oi := { dst := some 67, op := Op.move (Operand.tmp 0), type := 50, pos := "stamp.go:117", after := #[], guard := none }) (v := ?_) rfl (by kernel_rfl) (by kernel_rfl) (by kernel_rfl) (fun _ _ _ h => h) (Or.inl ⟨by rfl, ?_⟩) (by assumption) ?_
    rotate_left
    · (intro w9 hSw; (try dsimp only at hSw); go_split_ands; go_simp; with_reducible rfl)
    try simp only [Act.put, List.setIfInBounds_toArray, List.set_cons_zero, List.set_cons_succ]
    refine wpAnyH_take (i := 1) (oi := { dst := some 68, op := Op.move (Operand.tmp 5), type := 3, pos := "stamp.go:117", after := #[], guard := none }) (v := ?_) rfl (by kernel_rfl) (by kernel_rfl) (by kernel_rfl) (fun _ _ _ h => h) (Or.inl ⟨by rfl, ?_⟩) (by assumption) ?_
    rotate_left
    · (intro w9 hSw; (try dsimp only at hSw); go_split_ands; go_simp; with_reducible rfl)
    try simp only [Act.put, List.setIfInBounds_toArray, List.set_cons_zero, List.set_cons_succ]
    refine wpAnyH_take (i := 2) (oi := { dst := some 69, op := Op.nilCheck (Operand.tmp 67), type := 0, pos := "stamp.go:117", after := #[{ on := 0, ground := Ground.data }], guard := none }) (v := ?_) rfl (by kernel_rfl) (by kernel_rfl) (by kernel_rfl) (fun _ _ _ h => h) (Or.inl ⟨by rfl, ?_⟩) (by assumption) ?_
    rotate_left
    · (intro w9 hSw; (try dsimp only at hSw); go_split_ands; go_simp; with_reducible rfl)
    try simp only [Act.put, List.setIfInBounds_toArray, List.set_cons_zero, List.set_cons_succ]
    refine wpAnyH_take (i := 3) (oi := { dst := some 70, op := Op.fieldAddr 59 (Operand.tmp 69) 3, type := 0, pos := "stamp.go:117", after := #[{ on := 2, ground := Ground.data }], guard := none }) (v := ?_) rfl (by kernel_rfl) (by kernel_rfl) (by kernel_rfl) (fun _ _ _ h => h) (Or.inl ⟨by rfl, ?_⟩) (by assumption) ?_
    rotate_left
    · (intro w9 hSw; (try dsimp only at hSw); go_split_ands; go_simp; with_reducible rfl)
    try simp only [Act.put, List.setIfInBounds_toArray, List.set_cons_zero, List.set_cons_succ]
    refine wpAnyH_take (i := 4) (oi := { dst := some 71, op := Op.indexAddr 24 (Operand.tmp 70) (Operand.tmp 68), type := 0, pos := "stamp.go:117", after := #[{ on := 3, ground := Ground.data }, { on := 1, ground := Ground.data }], guard := none }) (v := ?_) rfl (by kernel_rfl) (by kernel_rfl) (by kernel_rfl) (fun _ _ _ h => h) (Or.inl ⟨by rfl, ?_⟩) (by assumption) ?_
    rotate_left
    · (intro w9 hSw; (try dsimp only at hSw); go_split_ands; go_simp; with_reducible rfl)
    try simp only [Act.put, List.setIfInBounds_toArray, List.set_cons_zero, List.set_cons_succ]
    refine wpAnyH_take (i := 7) (oi := { dst := some 74, op := Op.nilCheck (Operand.tmp 67), type := 0, pos := "stamp.go:117", after := #[{ on := 0, ground := Ground.data }], guard := none }) (v := ?_) rfl (by kernel_rfl) (by kernel_rfl) (by kernel_rfl) (fun _ _ _ h => h) (Or.inl ⟨by rfl, ?_⟩) (by assumption) ?_
    rotate_left
    · (intro w9 hSw; (try dsimp only at hSw); go_split_ands; go_simp; with_reducible rfl)
    try simp only [Act.put, List.setIfInBounds_toArray, List.set_cons_zero, List.set_cons_succ]
    refine wpAnyH_take (i := 8) (oi := { dst := some 75, op := Op.fieldAddr 59 (Operand.tmp 74) 3, type := 0, pos := "stamp.go:117", after := #[{ on := 7, ground := Ground.data }], guard := none }) (v := ?_) rfl (by kernel_rfl) (by kernel_rfl) (by kernel_rfl) (fun _ _ _ h => h) (Or.inl ⟨by rfl, ?_⟩) (by assumption) ?_
    rotate_left
    · (intro w9 hSw; (try dsimp only at hSw); go_split_ands; go_simp; with_reducible rfl)
    try simp only [Act.put, List.setIfInBounds_toArray, List.set_cons_zero, List.set_cons_succ]
    refine wpAnyH_ready (rs := [5]) (by kernel_rfl) (by simp) ?_
    refine AllReadyH.cons (o := { dst := some 72, op := Op.load 3 (Operand.tmp 71), type := 3, pos := "stamp.go:117", after := #[{ on := 4, ground := Ground.data }], guard := none }) rfl (fun K' hK => ?_) AllReadyH.nil
    have z0 : v7.cell? ⟨S, 3, none⟩ = some (.int .i64 0) := rowAt_cell HP.out.kn.st 3
    go_simp
    clear z0
    refine hK.out _ _ ⟨rowAt_cell HP.out.ec 0, rowAt_cell HP.out.ec 1, rowAt_cell HP.out.ec 2, rowAt_cell HP.out.ec 3, rowAt_cell HP.out.kn.st 41⟩ (fun hHeld => ?_)
    clear hK K'
    try simp only [Act.put, List.setIfInBounds_toArray, List.set_cons_zero, List.set_cons_succ]
    refine wpAnyH_take (i := 6) (oi := { dst := some 73, op := Op.binOp BinOp.add 3 (Operand.tmp 72) (Operand.const (Value.int IntKind.i64 1)) 3, type := 3, pos := "stamp.go:117", after := #[{ on := 5, ground := Ground.data }], guard := none }) (v := ?_) rfl (by kernel_rfl) (by kernel_rfl) (by kernel_rfl) (fun _ _ _ h => h) (Or.inl ⟨by rfl, ?_⟩) (by assumption) ?_
    rotate_left
    · (intro w9 hSw; (try dsimp only at hSw); go_split_ands; go_simp; with_reducible rfl)
    try simp only [Act.put, List.setIfInBounds_toArray, List.set_cons_zero, List.set_cons_succ]
    refine wpAnyH_take (i := 9) (oi := { dst := some 76, op := Op.indexAddr 24 (Operand.tmp 75) (Operand.tmp 68), type := 0, pos := "stamp.go:117", after := #[{ on := 8, ground := Ground.data }, { on := 1, ground := Ground.data }, { on := 0, ground := Ground.phase }, { on := 1, ground := Ground.phase }, { on := 2, ground := Ground.phase }, { on := 3, ground := Ground.phase }, { on := 4, ground := Ground.phase }, { on := 5, ground := Ground.phase }, { on := 6, ground := Ground.phase }], guard := none }) (v := ?_) rfl (by kernel_rfl) (by kernel_rfl) (by kernel_rfl) (fun _ _ _ h => h) (Or.inl ⟨by rfl, ?_⟩) (by assumption) ?_
    rotate_left
    · (intro w9 hSw; (try dsimp only at hSw); go_split_ands; go_simp; with_reducible rfl)
    try simp only [Act.put, List.setIfInBounds_toArray, List.set_cons_zero, List.set_cons_succ]
    refine wpAnyH_ready (rs := [10]) (by kernel_rfl) (by simp) ?_
    refine AllReadyH.cons (o := { dst := none, op := Op.store 3 (Operand.tmp 76) (Operand.tmp 73), type := 0, pos := "stamp.go:117", after := #[{ on := 9, ground := Ground.data }, { on := 6, ground := Ground.data }, { on := 0, ground := Ground.phase }, { on := 1, ground := Ground.phase }, { on := 2, ground := Ground.phase }, { on := 3, ground := Ground.phase }, { on := 4, ground := Ground.phase }, { on := 5, ground := Ground.phase }, { on := 6, ground := Ground.phase }], guard := none }) rfl (fun K' hK => ?_) AllReadyH.nil
    have z0 : v7.cell? ⟨S, 3, none⟩ = some (.int .i64 0) := rowAt_cell HP.out.kn.st 3
    have f0 : v7.frozen? ⟨S, 3, none⟩ = false := rowAt_frz HP.out.kn.st 3
    go_simp
    clear z0 f0
    replace HP := Lib.hid (HP.out.putS (w' := (v7.setCell ⟨S, 3, none⟩ (.int .i64 (IntKind.i64.wrap 1)))) (SA' := SG0 E Y R K m1 m2) (grown_set _ ⟨S, 3, none⟩ _) ((rowAt_set HP.out.kn.st 3 _).trans (by kernel_rfl)) rfl rfl rfl)
    refine hK.out _ _ ⟨rowAt_cell HP.out.ec 0, rowAt_cell HP.out.ec 1, rowAt_cell HP.out.ec 2, rowAt_cell HP.out.ec 3, rowAt_cell HP.out.kn.st 41⟩ (fun hHeld => ?_)
    clear hK K'
    try simp only [Act.put, List.setIfInBounds_toArray, List.set_cons_zero, List.set_cons_succ]
    refine wpAnyH_done (by kernel_rfl) ?_ _
    generalize (v7.setCell ⟨S, 3, none⟩ (.int .i64 (IntKind.i64.wrap 1))) = v8 at hHeld HP ⊢
    clear hHeld
    have x0 : v8.cell? ⟨x, 0, none⟩ = some (.int .i64 0) := rowAt_cell HP.out.ex 0
    have x1 : v8.cell? ⟨x, 1, none⟩ = some (.int .i64 5) := rowAt_cell HP.out.ex 1
    have x2 : v8.cell? ⟨x, 2, none⟩ = some (.int .i64 0) := rowAt_cell HP.out.ex 2
    have x3 : v8.cell? ⟨x, 3, none⟩ = some (.int .i64 0) := rowAt_cell HP.out.ex 3
    have x4 : v8.cell? ⟨x, 4, none⟩ = some (.int .i64 1) := rowAt_cell HP.out.ex 4
    have x5 : v8.cell? ⟨x, 5, none⟩ = some (.bool false) := rowAt_cell HP.out.ex 5
    have x6 : v8.cell? ⟨x, 6, none⟩ = some (.int .i64 0) := rowAt_cell HP.out.ex 6
    have x7 : v8.cell? ⟨x, 7, none⟩ = some (.int .i64 0) := rowAt_cell HP.out.ex 7
    have x8 : v8.cell? ⟨x, 8, none⟩ = some (.int .i64 1) := rowAt_cell HP.out.ex 8
    go_wp2
    clear x0 x1 x2 x3 x4 x5 x6 x7 x8
    refine wp_region_held_drew (S := (fun w' => w'.cell? ⟨cb, 0, none⟩ = some (.int .i64 1) ∧ w'.cell? ⟨cb, 1, none⟩ = some (.int .i64 0) ∧ w'.cell? ⟨cb, 2, none⟩ = some (.int .i64 0) ∧ w'.cell? ⟨cb, 3, none⟩ = some (.int .i64 0) ∧ w'.cell? ⟨x, 4, none⟩ = some (.int .i64 1))) (by kernel_rfl) ⟨rowAt_cell HP.out.ec 0, rowAt_cell HP.out.ec 1, rowAt_cell HP.out.ec 2, rowAt_cell HP.out.ec 3, rowAt_cell HP.out.ex 4⟩ (fun hHeld => ?_)
    replace HP := Lib.hid HP.out.same
    generalize hv9 : World.drew _ = v9 at hHeld HP ⊢
    clear hv9
    refine wpAnyH_take (i := 0) (oi := { dst := some 125, op := Op.move (Operand.tmp 0), type := 50, pos := "stamp.go:124", after := #[], guard := none }) (v := ?_) rfl (by kernel_rfl) (by kernel_rfl) (by kernel_rfl) (fun _ _ _ h => h) (Or.inl ⟨by rfl, ?_⟩) (by assumption) ?_
    rotate_left
    · (intro w9 hSw; (try dsimp only at hSw); go_split_ands; go_simp; with_reducible rfl)
    try simp only [Act.put, List.setIfInBounds_toArray, List.set_cons_zero, List.set_cons_succ]
    refine wpAnyH_take (i := 1) (oi := { dst := some 126, op := Op.fieldAddr 44 (Operand.tmp 4) 4, type := 0, pos := "stamp.go:124", after := #[], guard := none }) (v := ?_) rfl (by kernel_rfl) (by kernel_rfl) (by kernel_rfl) (fun _ _ _ h => h) (Or.inl ⟨by rfl, ?_⟩) (by assumption) ?_
    rotate_left
    · (intro w9 hSw; (try dsimp only at hSw); go_split_ands; go_simp; with_reducible rfl)
    try simp only [Act.put, List.setIfInBounds_toArray, List.set_cons_zero, List.set_cons_succ]
    refine wpAnyH_take (i := 2) (oi := { dst := some 127, op := Op.load 2 (Operand.tmp 126), type := 2, pos := "stamp.go:124", after := #[{ on := 1, ground := Ground.data }], guard := none }) (v := ?_) rfl (by kernel_rfl) (by kernel_rfl) (by kernel_rfl) (fun _ _ _ h => h) (Or.inl ⟨by rfl, ?_⟩) (by assumption) ?_
    rotate_left
    · (intro w9 hSw; (try dsimp only at hSw); go_split_ands; go_simp; with_reducible rfl)
    try simp only [Act.put, List.setIfInBounds_toArray, List.set_cons_zero, List.set_cons_succ]
    refine wpAnyH_take (i := 3) (oi := { dst := some 128, op := Op.load 24 (Operand.tmp 7), type := 24, pos := "stamp.go:124", after := #[], guard := none }) (v := ?_) rfl (by kernel_rfl) (by kernel_rfl) (by kernel_rfl) (fun _ _ _ h => h) (Or.inl ⟨by rfl, ?_⟩) (by assumption) ?_
    rotate_left
    · (intro w9 hSw; (try dsimp only at hSw); go_split_ands; go_simp; with_reducible rfl)
    try simp only [Act.put, List.setIfInBounds_toArray, List.set_cons_zero, List.set_cons_succ]
    refine wpAnyH_take (i := 4) (oi := { dst := some 129, op := Op.nilCheck (Operand.tmp 125), type := 0, pos := "stamp.go:124", after := #[{ on := 0, ground := Ground.data }], guard := none }) (v := ?_) rfl (by kernel_rfl) (by kernel_rfl) (by kernel_rfl) (fun _ _ _ h => h) (Or.inl ⟨by rfl, ?_⟩) (by assumption) ?_
    rotate_left
    · (intro w9 hSw; (try dsimp only at hSw); go_split_ands; go_simp; with_reducible rfl)
    try simp only [Act.put, List.setIfInBounds_toArray, List.set_cons_zero, List.set_cons_succ]
    refine wpAnyH_take (i := 5) (oi := { dst := some 130, op := Op.fieldAddr 59 (Operand.tmp 129) 5, type := 0, pos := "stamp.go:124", after := #[{ on := 4, ground := Ground.data }], guard := none }) (v := ?_) rfl (by kernel_rfl) (by kernel_rfl) (by kernel_rfl) (fun _ _ _ h => h) (Or.inl ⟨by rfl, ?_⟩) (by assumption) ?_
    rotate_left
    · (intro w9 hSw; (try dsimp only at hSw); go_split_ands; go_simp; with_reducible rfl)
    try simp only [Act.put, List.setIfInBounds_toArray, List.set_cons_zero, List.set_cons_succ]
    refine wpAnyH_take (i := 6) (oi := { dst := some 131, op := Op.indexAddr 57 (Operand.tmp 130) (Operand.tmp 127), type := 0, pos := "stamp.go:124", after := #[{ on := 5, ground := Ground.data }, { on := 2, ground := Ground.data }, { on := 0, ground := Ground.phase }, { on := 1, ground := Ground.phase }, { on := 2, ground := Ground.phase }, { on := 3, ground := Ground.phase }], guard := none }) (v := ?_) rfl (by kernel_rfl) (by kernel_rfl) (by kernel_rfl) (fun _ _ _ h => h) (Or.inl ⟨by rfl, ?_⟩) (by assumption) ?_
    rotate_left
    · (intro w9 hSw; (try dsimp only at hSw); go_split_ands; go_simp; with_reducible rfl)
    try simp only [Act.put, List.setIfInBounds_toArray, List.set_cons_zero, List.set_cons_succ]
    refine wpAnyH_ready (rs := [7]) (by kernel_rfl) (by simp) ?_
    refine AllReadyH.cons (o := { dst := none, op := Op.store 24 (Operand.tmp 131) (Operand.tmp 128), type := 0, pos := "stamp.go:124", after := #[{ on := 6, ground := Ground.data }, { on := 3, ground := Ground.data }, { on := 0, ground := Ground.phase }, { on := 1, ground := Ground.phase }, { on := 2, ground := Ground.phase }, { on := 3, ground := Ground.phase }], guard := none }) rfl (fun K' hK => ?_) AllReadyH.nil
    have z0 : v9.cell? ⟨S, 27, none⟩ = some (.int .i64 0) := rowAt_cell HP.out.kn.st 27
    have z1 : v9.cell? ⟨S, 28, none⟩ = some (.int .i64 0) := rowAt_cell HP.out.kn.st 28
    have z2 : v9.cell? ⟨S, 29, none⟩ = some (.int .i64 0) := rowAt_cell HP.out.kn.st 29
    have z3 : v9.cell? ⟨S, 30, none⟩ = some (.int .i64 0) := rowAt_cell HP.out.kn.st 30
    have f0 : v9.frozen? ⟨S, 27, none⟩ = false := rowAt_frz HP.out.kn.st 27
    have f1 : v9.frozen? ⟨S, 28, none⟩ = false := rowAt_frz HP.out.kn.st 28
    have f2 : v9.frozen? ⟨S, 29, none⟩ = false := rowAt_frz HP.out.kn.st 29
    have f3 : v9.frozen? ⟨S, 30, none⟩ = false := rowAt_frz HP.out.kn.st 30
    go_simp
    clear z0 f0 z1 f1 z2 f2 z3 f3
    replace HP := Lib.hid (HP.out.putS (w' := ((((v9.setCell ⟨S, 27, none⟩ (.int .i64 1)).setCell ⟨S, 28, none⟩ (.int .i64 0)).setCell ⟨S, 29, none⟩ (.int .i64 0)).setCell ⟨S, 30, none⟩ (.int .i64 0))) (SA' := SA1 E Y R K m1 m2) ((((grown_set _ ⟨S, 27, none⟩ _).trans (grown_set _ ⟨S, 28, none⟩ _)).trans (grown_set _ ⟨S, 29, none⟩ _)).trans (grown_set _ ⟨S, 30, none⟩ _)) ((rowAt_set (rowAt_set (rowAt_set (rowAt_set HP.out.kn.st 27 _) 28 _) 29 _) 30 _).trans (by kernel_rfl)) rfl rfl rfl)
    refine hK.out _ _ ⟨rowAt_cell HP.out.ec 0, rowAt_cell HP.out.ec 1, rowAt_cell HP.out.ec 2, rowAt_cell HP.out.ec 3, rowAt_cell HP.out.ex 4⟩ (fun hHeld => ?_)
    clear hK K'
    try simp only [Act.put, List.setIfInBounds_toArray, List.set_cons_zero, List.set_cons_succ]
    refine wpAnyH_done (by kernel_rfl) ?_ _
    clear hHeld
    go_wp2
    go_end0
    exact ⟨rfl, HP.out.kn, HP.out.ka, HP.out.bl⟩
set_option maxRecDepth 100000 in
set_option maxHeartbeats 4000000 in
theorem stamp_2 {E Y R S K g0 p0 g1 p1 : Nat} {m1 m2 : Value} (w : World) (hk : Kn E Y R S g0 p0 g1 p1 (SA1 E Y R K m1 m2) w) (hls : E ≠ S ∧ Y ≠ S ∧ R ≠ S ∧ g0 ≠ S ∧ g1 ≠ S) (hlk : E ≠ K ∧ Y ≠ K ∧ R ≠ K ∧ g0 ≠ K ∧ g1 ≠ K) (hKS : K ≠ S) (hka : rowAt w K = some #[.int .i64 1, .int .i64 0, .int .i64 0, .int .i64 0, .int .i64 0, .int .i64 0, .int .i64 0, .int .i64 0, .int .i64 0, .int .i64 0, .int .i64 0, .int .i64 0]) : Calls Try.prog 29 #[.pointer (some ⟨S, 0, none⟩), .int .i64 2] w (StampP E Y R S K g0 p0 g1 p1 (SA2 E Y R K m1 m2) #[.int .i64 1, .int .i64 0, .int .i64 0, .int .i64 0, .int .i64 0, .int .i64 0, .int .i64 0, .int .i64 0, .int .i64 2, .int .i64 0, .int .i64 0, .int .i64 0] w) := by
  have k1 := hk.past ((Below.refl w.heap.size w).alloc (Nat.le_refl _) (.cells #[.int .i64 0, .int .i64 7, .int .i64 0, .int .i64 0, .int .i64 0, .bool false, .int .i64 0, .int .i64 0, .int .i64 3] 44)) rfl
  have k2 := hk.past (((Below.refl w.heap.size w).alloc (Nat.le_refl _) (.cells #[.int .i64 0, .int .i64 7, .int .i64 0, .int .i64 0, .int .i64 0, .bool false, .int .i64 0, .int .i64 0, .int .i64 3] 44)).alloc (by simp) (.cells #[.int .i64 1, .int .i64 0, .int .i64 0, .int .i64 0] 24)) rfl
  have k3 := hk.past (((Below.refl w.heap.size w).alloc (Nat.le_refl _) (.cells #[.int .i64 0, .int .i64 7, .int .i64 0, .int .i64 0, .int .i64 0, .bool false, .int .i64 0, .int .i64 0, .int .i64 3] 44)).alloc (by simp) (.cells #[.int .i64 1, .int .i64 0, .int .i64 0, .int .i64 0] 24)) rfl
  have s0 : w.cell? ⟨S, 0, none⟩ = some (.slice (some ⟨E, 0, none⟩) 3 3) := rowAt_cell hk.st 0
  have ev0 : w.cell? ⟨E, 18, none⟩ = some (.int .i64 0) := rowAt_cell hk.ev 18
  have ev1 : w.cell? ⟨E, 19, none⟩ = some (.int .i64 7) := rowAt_cell hk.ev 19
  have ev2 : w.cell? ⟨E, 20, none⟩ = some (.int .i64 0) := rowAt_cell hk.ev 20
  have ev3 : w.cell? ⟨E, 21, none⟩ = some (.int .i64 0) := rowAt_cell hk.ev 21
  have ev4 : w.cell? ⟨E, 22, none⟩ = some (.int .i64 0) := rowAt_cell hk.ev 22
  have ev5 : w.cell? ⟨E, 23, none⟩ = some (.bool false) := rowAt_cell hk.ev 23
  have ev6 : w.cell? ⟨E, 24, none⟩ = some (.int .i64 0) := rowAt_cell hk.ev 24
  have ev7 : w.cell? ⟨E, 25, none⟩ = some (.int .i64 0) := rowAt_cell hk.ev 25
  have ev8 : w.cell? ⟨E, 26, none⟩ = some (.int .i64 3) := rowAt_cell hk.ev 26
  have no0 : (w.alloc (.cells #[.int .i64 0, .int .i64 7, .int .i64 0, .int .i64 0, .int .i64 0, .bool false, .int .i64 0, .int .i64 0, .int .i64 3] 44)).cell? ⟨S, 7, none⟩ = some (.int .i64 1) := rowAt_cell k1.st 7
  have no1 : (w.alloc (.cells #[.int .i64 0, .int .i64 7, .int .i64 0, .int .i64 0, .int .i64 0, .bool false, .int .i64 0, .int .i64 0, .int .i64 3] 44)).cell? ⟨S, 8, none⟩ = some (.int .i64 0) := rowAt_cell k1.st 8
  have no2 : (w.alloc (.cells #[.int .i64 0, .int .i64 7, .int .i64 0, .int .i64 0, .int .i64 0, .bool false, .int .i64 0, .int .i64 0, .int .i64 3] 44)).cell? ⟨S, 9, none⟩ = some (.int .i64 0) := rowAt_cell k1.st 9
  have no3 : (w.alloc (.cells #[.int .i64 0, .int .i64 7, .int .i64 0, .int .i64 0, .int .i64 0, .bool false, .int .i64 0, .int .i64 0, .int .i64 3] 44)).cell? ⟨S, 10, none⟩ = some (.int .i64 0) := rowAt_cell k1.st 10
  have go0 : ((w.alloc (.cells #[.int .i64 0, .int .i64 7, .int .i64 0, .int .i64 0, .int .i64 0, .bool false, .int .i64 0, .int .i64 0, .int .i64 3] 44)).alloc (.cells #[.int .i64 1, .int .i64 0, .int .i64 0, .int .i64 0] 24)).cell? ⟨S, 3, none⟩ = some (.int .i64 1) := rowAt_cell k2.st 3
  have go1 : ((w.alloc (.cells #[.int .i64 0, .int .i64 7, .int .i64 0, .int .i64 0, .int .i64 0, .bool false, .int .i64 0, .int .i64 0, .int .i64 3] 44)).alloc (.cells #[.int .i64 1, .int .i64 0, .int .i64 0, .int .i64 0] 24)).cell? ⟨S, 4, none⟩ = some (.int .i64 0) := rowAt_cell k2.st 4
  have go2 : ((w.alloc (.cells #[.int .i64 0, .int .i64 7, .int .i64 0, .int .i64 0, .int .i64 0, .bool false, .int .i64 0, .int .i64 0, .int .i64 3] 44)).alloc (.cells #[.int .i64 1, .int .i64 0, .int .i64 0, .int .i64 0] 24)).cell? ⟨S, 5, none⟩ = some (.int .i64 0) := rowAt_cell k2.st 5
  have go3 : ((w.alloc (.cells #[.int .i64 0, .int .i64 7, .int .i64 0, .int .i64 0, .int .i64 0, .bool false, .int .i64 0, .int .i64 0, .int .i64 3] 44)).alloc (.cells #[.int .i64 1, .int .i64 0, .int .i64 0, .int .i64 0] 24)).cell? ⟨S, 6, none⟩ = some (.int .i64 0) := rowAt_cell k2.st 6
  have HL : Hid (E < w.heap.size ∧ Y < w.heap.size ∧ R < w.heap.size ∧ S < w.heap.size ∧ g0 < w.heap.size ∧ g1 < w.heap.size) := Lib.hid hk.lts
  have HKl : Hid (K < w.heap.size) := Lib.hid (rowAt_lt hka)
  have HI : Hid (In w E Y R S K g0 p0 g1 p1 w.heap.size (w.heap.size + 1) (SA1 E Y R K m1 m2) #[.int .i64 1, .int .i64 0, .int .i64 0, .int .i64 0, .int .i64 0, .int .i64 0, .int .i64 0, .int .i64 0, .int .i64 0, .int .i64 0, .int .i64 0, .int .i64 0] #[.int .i64 0, .int .i64 7, .int .i64 0, .int .i64 0, .int .i64 0, .bool false, .int .i64 0, .int .i64 0, .int .i64 3] #[.int .i64 1, .int .i64 0, .int .i64 0, .int .i64 0] ((w.alloc (.cells #[.int .i64 0, .int .i64 7, .int .i64 0, .int .i64 0, .int .i64 0, .bool false, .int .i64 0, .int .i64 0, .int .i64 3] 44)).alloc (.cells #[.int .i64 1, .int .i64 0, .int .i64 0, .int .i64 0] 24))) := Lib.hid ⟨k3, rowAt_past (rowAt_past hka _) _, rowAt_past (rowAt_new _ _ _) _, (by have := rowAt_new (w.alloc (.cells #[.int .i64 0, .int .i64 7, .int .i64 0, .int .i64 0, .int .i64 0, .bool false, .int .i64 0, .int .i64 0, .int .i64 3] 44)) #[.int .i64 1, .int .i64 0, .int .i64 0, .int .i64 0] 24; simpa using this), ((Below.refl w.heap.size w).alloc (Nat.le_refl _) _).alloc (by simp) _⟩
  clear hk k1 k2 k3 hka
  go_enter Try.func29, Try.ntmps29
  go_upto_region 5 with (fail)
  clear s0 ev0 ev1 ev2 ev3 ev4 ev5 ev6 ev7 ev8 no0 no1 no2 no3 go0 go1 go2 go3
  obtain ⟨U, hU⟩ : ∃ U, U = ((w.alloc (.cells #[.int .i64 0, .int .i64 7, .int .i64 0, .int .i64 0, .int .i64 0, .bool false, .int .i64 0, .int .i64 0, .int .i64 3] 44)).alloc (.cells #[.int .i64 1, .int .i64 0, .int .i64 0, .int .i64 0] 24)) := ⟨_, rfl⟩
  rw [← hU] at HI ⊢
  clear hU
  obtain ⟨x, hx⟩ : ∃ x, x = w.heap.size := ⟨_, rfl⟩
  have HX := Lib.hid hx
  replace HI : Hid (In w E Y R S K g0 p0 g1 p1 x (x + 1) (SA1 E Y R K m1 m2) #[.int .i64 1, .int .i64 0, .int .i64 0, .int .i64 0, .int .i64 0, .int .i64 0, .int .i64 0, .int .i64 0, .int .i64 0, .int .i64 0, .int .i64 0, .int .i64 0] #[.int .i64 0, .int .i64 7, .int .i64 0, .int .i64 0, .int .i64 0, .bool false, .int .i64 0, .int .i64 0, .int .i64 3] #[.int .i64 1, .int .i64 0, .int .i64 0, .int .i64 0] U) := by rw [hx]; exact HI
  rw [← hx]
  clear hx
  generalize x + 1 = nb at HI ⊢
  go_cut [7] from 40 to 53 (fun s wx => CutP w E Y R S K g0 p0 g1 p1 x (SA1 E Y R K m1 m2) #[.int .i64 1, .int .i64 0, .int .i64 0, .int .i64 0, .int .i64 0, .int .i64 0, .int .i64 0, .int .i64 0, .int .i64 0, .int .i64 0, .int .i64 0, .int .i64 0] #[.int .i64 0, .int .i64 7, .int .i64 0, .int .i64 0, .int .i64 0, .bool false, .int .i64 0, .int .i64 0, .int .i64 3] #[.int .i64 2, .int .i64 0, .int .i64 0, .int .i64 0] s wx)
  case first =>
    go_wp2
    refine wp_region_held_drew (S := (fun w' => w'.cell? ⟨x, 0, none⟩ = some (.int .i64 0) ∧ w'.cell? ⟨x, 1, none⟩ = some (.int .i64 7) ∧ w'.cell? ⟨x, 2, none⟩ = some (.int .i64 0) ∧ w'.cell? ⟨x, 3, none⟩ = some (.int .i64 0) ∧ w'.cell? ⟨x, 4, none⟩ = some (.int .i64 0) ∧ w'.cell? ⟨x, 5, none⟩ = some (.bool false) ∧ w'.cell? ⟨x, 6, none⟩ = some (.int .i64 0) ∧ w'.cell? ⟨x, 7, none⟩ = some (.int .i64 0) ∧ w'.cell? ⟨x, 8, none⟩ = some (.int .i64 3) ∧ w'.cell? ⟨nb, 0, none⟩ = some (.int .i64 1) ∧ w'.cell? ⟨nb, 1, none⟩ = some (.int .i64 0) ∧ w'.cell? ⟨nb, 2, none⟩ = some (.int .i64 0) ∧ w'.cell? ⟨nb, 3, none⟩ = some (.int .i64 0) ∧ w'.cell? ⟨S, 1, none⟩ = some (.slice (some ⟨Y, 0, none⟩) 3 3) ∧ w'.cell? ⟨Y, 2, none⟩ = some (.bool false))) (by kernel_rfl) ⟨rowAt_cell HI.out.ex 0, rowAt_cell HI.out.ex 1, rowAt_cell HI.out.ex 2, rowAt_cell HI.out.ex 3, rowAt_cell HI.out.ex 4, rowAt_cell HI.out.ex 5, rowAt_cell HI.out.ex 6, rowAt_cell HI.out.ex 7, rowAt_cell HI.out.ex 8, rowAt_cell HI.out.en 0, rowAt_cell HI.out.en 1, rowAt_cell HI.out.en 2, rowAt_cell HI.out.en 3, rowAt_cell HI.out.kn.st 1, rowAt_cell HI.out.kn.yy 2⟩ (fun hHeld => ?_)
    replace HI := Lib.hid (HI.out.past (Below.refl U.heap.size U).drew rfl rfl rfl rfl)
    generalize U.drew = u at hHeld HI ⊢
    refine wpAnyH_take (i := 0) (oi := { dst := some 40, op := Op.load 24 (Operand.tmp 6), type := 24, pos := "stamp.go:115", after := #[], guard := none }) (v := ?_) rfl (by kernel_rfl) (by kernel_rfl) (by kernel_rfl) (fun _ _ _ h => h) (Or.inl ⟨by rfl, ?_⟩) (by assumption) ?_
    rotate_left
    · (intro w0 hSw; (try dsimp only at hSw); go_split_ands; go_simp; with_reducible rfl)
    try simp only [Act.put, List.setIfInBounds_toArray, List.set_cons_zero, List.set_cons_succ]
    refine wpAnyH_take (i := 1) (oi := { dst := some 41, op := Op.move (Operand.tmp 0), type := 50, pos := "stamp.go:115", after := #[], guard := none }) (v := ?_) rfl (by kernel_rfl) (by kernel_rfl) (by kernel_rfl) (fun _ _ _ h => h) (Or.inl ⟨by rfl, ?_⟩) (by assumption) ?_
    rotate_left
    · (intro w0 hSw; (try dsimp only at hSw); go_split_ands; go_simp; with_reducible rfl)
    try simp only [Act.put, List.setIfInBounds_toArray, List.set_cons_zero, List.set_cons_succ]
    refine wpAnyH_take (i := 2) (oi := { dst := some 42, op := Op.load 44 (Operand.tmp 4), type := 44, pos := "stamp.go:115", after := #[], guard := none }) (v := ?_) rfl (by kernel_rfl) (by kernel_rfl) (by kernel_rfl) (fun _ _ _ h => h) (Or.inl ⟨by rfl, ?_⟩) (by assumption) ?_
    rotate_left
    · (intro w0 hSw; (try dsimp only at hSw); go_split_ands; go_simp; with_reducible rfl)
    try simp only [Act.put, List.setIfInBounds_toArray, List.set_cons_zero, List.set_cons_succ]
    refine wpAnyH_take (i := 3) (oi := { dst := some 43, op := Op.move (Operand.tmp 0), type := 50, pos := "stamp.go:115", after := #[], guard := none }) (v := ?_) rfl (by kernel_rfl) (by kernel_rfl) (by kernel_rfl) (fun _ _ _ h => h) (Or.inl ⟨by rfl, ?_⟩) (by assumption) ?_
    rotate_left
    · (intro w0 hSw; (try dsimp only at hSw); go_split_ands; go_simp; with_reducible rfl)
    try simp only [Act.put, List.setIfInBounds_toArray, List.set_cons_zero, List.set_cons_succ]
    refine wpAnyH_take (i := 4) (oi := { dst := some 44, op := Op.nilCheck (Operand.tmp 43), type := 0, pos := "stamp.go:115", after := #[{ on := 3, ground := Ground.data }], guard := none }) (v := ?_) rfl (by kernel_rfl) (by kernel_rfl) (by kernel_rfl) (fun _ _ _ h => h) (Or.inl ⟨by rfl, ?_⟩) (by assumption) ?_
    rotate_left
    · (intro w0 hSw; (try dsimp only at hSw); go_split_ands; go_simp; with_reducible rfl)
    try simp only [Act.put, List.setIfInBounds_toArray, List.set_cons_zero, List.set_cons_succ]
    refine wpAnyH_take (i := 5) (oi := { dst := some 45, op := Op.fieldAddr 59 (Operand.tmp 44) 1, type := 0, pos := "stamp.go:115", after := #[{ on := 4, ground := Ground.data }], guard := none }) (v := ?_) rfl (by kernel_rfl) (by kernel_rfl) (by kernel_rfl) (fun _ _ _ h => h) (Or.inl ⟨by rfl, ?_⟩) (by assumption) ?_
    rotate_left
    · (intro w0 hSw; (try dsimp only at hSw); go_split_ands; go_simp; with_reducible rfl)
    try simp only [Act.put, List.setIfInBounds_toArray, List.set_cons_zero, List.set_cons_succ]
    refine wpAnyH_take (i := 6) (oi := { dst := some 46, op := Op.load 51 (Operand.tmp 45), type := 51, pos := "stamp.go:115", after := #[{ on := 5, ground := Ground.data }], guard := none }) (v := ?_) rfl (by kernel_rfl) (by kernel_rfl) (by kernel_rfl) (fun _ _ _ h => h) (Or.inl ⟨by rfl, ?_⟩) (by assumption) ?_
    rotate_left
    · (intro w0 hSw; (try dsimp only at hSw); go_split_ands; go_simp; with_reducible rfl)
    try simp only [Act.put, List.setIfInBounds_toArray, List.set_cons_zero, List.set_cons_succ]
    refine wpAnyH_take (i := 7) (oi := { dst := some 47, op := Op.move (Operand.tmp 1), type := 3, pos := "stamp.go:115", after := #[], guard := none }) (v := ?_) rfl (by kernel_rfl) (by kernel_rfl) (by kernel_rfl) (fun _ _ _ h => h) (Or.inl ⟨by rfl, ?_⟩) (by assumption) ?_
    rotate_left
    · (intro w0 hSw; (try dsimp only at hSw); go_split_ands; go_simp; with_reducible rfl)
    try simp only [Act.put, List.setIfInBounds_toArray, List.set_cons_zero, List.set_cons_succ]
    refine wpAnyH_take (i := 8) (oi := { dst := some 48, op := Op.indexAddr 51 (Operand.tmp 46) (Operand.tmp 47), type := 0, pos := "stamp.go:115", after := #[{ on := 6, ground := Ground.data }, { on := 7, ground := Ground.data }], guard := none }) (v := ?_) rfl (by kernel_rfl) (by kernel_rfl) (by kernel_rfl) (fun _ _ _ h => h) (Or.inl ⟨by rfl, ?_⟩) (by assumption) ?_
    rotate_left
    · (intro w0 hSw; (try dsimp only at hSw); go_split_ands; go_simp; with_reducible rfl)
    try simp only [Act.put, List.setIfInBounds_toArray, List.set_cons_zero, List.set_cons_succ]
    refine wpAnyH_take (i := 9) (oi := { dst := some 49, op := Op.load 4 (Operand.tmp 48), type := 4, pos := "stamp.go:115", after := #[{ on := 8, ground := Ground.data }], guard := none }) (v := ?_) rfl (by kernel_rfl) (by kernel_rfl) (by kernel_rfl) (fun _ _ _ h => h) (Or.inl ⟨by rfl, ?_⟩) (by assumption) ?_
    rotate_left
    · (intro w0 hSw; (try dsimp only at hSw); go_split_ands; go_simp; with_reducible rfl)
    try simp only [Act.put, List.setIfInBounds_toArray, List.set_cons_zero, List.set_cons_succ]
    refine wpAnyH_take (i := 12) (oi := { dst := some 52, op := Op.move (Operand.tmp 5), type := 3, pos := "stamp.go:115", after := #[], guard := none }) (v := ?_) rfl (by kernel_rfl) (by kernel_rfl) (by kernel_rfl) (fun _ _ _ h => h) (Or.inl ⟨by rfl, ?_⟩) (by assumption) ?_
    rotate_left
    · (intro w0 hSw; (try dsimp only at hSw); go_split_ands; go_simp; with_reducible rfl)
    try simp only [Act.put, List.setIfInBounds_toArray, List.set_cons_zero, List.set_cons_succ]
    refine wpAnyH_ready (rs := [10, 14]) (by kernel_rfl) (by simp) ?_
    refine AllReadyH.cons (o := { dst := some 50, op := Op.call { callee := Callee.value (Operand.func 34), args := #[Operand.tmp 41, Operand.tmp 42, Operand.tmp 49], argTypes := #[50, 44, 4] }, type := 24, pos := "stamp.go:115", after := #[{ on := 1, ground := Ground.data }, { on := 2, ground := Ground.data }, { on := 9, ground := Ground.data }], guard := none }) rfl (fun K hK => ?_) (AllReadyH.cons (o := { dst := some 7, op := Op.alloc 24, type := 0, pos := "stamp.go:115", after := #[], guard := none }) rfl (fun K hK => ?_) AllReadyH.nil)
    · go_simp
      go_at_call 34
      refine (joined_2 S _ _).mono ?_
      rintro e u1 ⟨rfl, hb⟩
      replace HI := Lib.hid (HI.out.past hb rfl rfl rfl rfl)
      unfold ck
      clear hb
      refine hK.out _ _ ⟨rowAt_cell HI.out.ex 0, rowAt_cell HI.out.ex 1, rowAt_cell HI.out.ex 2, rowAt_cell HI.out.ex 3, rowAt_cell HI.out.ex 4, rowAt_cell HI.out.ex 5, rowAt_cell HI.out.ex 6, rowAt_cell HI.out.ex 7, rowAt_cell HI.out.ex 8, rowAt_cell HI.out.en 0, rowAt_cell HI.out.en 1, rowAt_cell HI.out.en 2, rowAt_cell HI.out.en 3, rowAt_cell HI.out.kn.st 1, rowAt_cell HI.out.kn.yy 2⟩ (fun hHeld => ?_)
      clear hK K
      try simp only [Act.put, List.setIfInBounds_toArray, List.set_cons_zero, List.set_cons_succ]
      refine wpAnyH_ready (rs := [11, 14]) (by kernel_rfl) (by simp) ?_
      refine AllReadyH.cons (o := { dst := some 51, op := Op.call { callee := Callee.value (Operand.func 8), args := #[Operand.tmp 40, Operand.tmp 50], argTypes := #[24, 24] }, type := 24, pos := "stamp.go:115", after := #[{ on := 0, ground := Ground.data }, { on := 10, ground := Ground.data }, { on := 10, ground := Ground.chain }], guard := none }) rfl (fun K hK => ?_) (AllReadyH.cons (o := { dst := some 7, op := Op.alloc 24, type := 0, pos := "stamp.go:115", after := #[], guard := none }) rfl (fun K hK => ?_) AllReadyH.nil)
      · go_simp
        go_at_call 8
        refine (join_c 1 0 0 0 0 0 0 0 _).mono ?_
        rintro e u2 ⟨rfl, hb⟩
        replace HI := Lib.hid (HI.out.past hb rfl rfl rfl rfl)
        rw [show ck (max 1 0) (max 0 0) (max 0 0) (max 0 0) = ck 1 0 0 0 from by kernel_rfl]
        unfold ck
        clear hb
        refine hK.out _ _ ⟨rowAt_cell HI.out.ex 0, rowAt_cell HI.out.ex 1, rowAt_cell HI.out.ex 2, rowAt_cell HI.out.ex 3, rowAt_cell HI.out.ex 4, rowAt_cell HI.out.ex 5, rowAt_cell HI.out.ex 6, rowAt_cell HI.out.ex 7, rowAt_cell HI.out.ex 8, rowAt_cell HI.out.en 0, rowAt_cell HI.out.en 1, rowAt_cell HI.out.en 2, rowAt_cell HI.out.en 3, rowAt_cell HI.out.kn.st 1, rowAt_cell HI.out.kn.yy 2⟩ (fun hHeld => ?_)
        clear hK K
        try simp only [Act.put, List.setIfInBounds_toArray, List.set_cons_zero, List.set_cons_succ]
        refine wpAnyH_ready (rs := [13, 14]) (by kernel_rfl) (by simp) ?_
        refine AllReadyH.cons (o := { dst := some 53, op := Op.call { callee := Callee.value (Operand.func 10), args := #[Operand.tmp 51, Operand.tmp 52], argTypes := #[24, 3] }, type := 24, pos := "stamp.go:115", after := #[{ on := 11, ground := Ground.data }, { on := 12, ground := Ground.data }, { on := 11, ground := Ground.chain }], guard := none }) rfl (fun K hK => ?_) (AllReadyH.cons (o := { dst := some 7, op := Op.alloc 24, type := 0, pos := "stamp.go:115", after := #[], guard := none }) rfl (fun K hK => ?_) AllReadyH.nil)
        · go_simp
          go_at_call 10
          refine (tick_c 1 0 0 0 0 _).mono ?_
          rintro e u3 ⟨rfl, hb⟩
          replace HI := Lib.hid (HI.out.past hb rfl rfl rfl rfl)
          rw [show tkV 1 0 0 0 0 = ck 2 0 0 0 from by kernel_rfl]
          unfold ck
          clear hb
          refine hK.out _ _ ⟨rowAt_cell HI.out.ex 0, rowAt_cell HI.out.ex 1, rowAt_cell HI.out.ex 2, rowAt_cell HI.out.ex 3, rowAt_cell HI.out.ex 4, rowAt_cell HI.out.ex 5, rowAt_cell HI.out.ex 6, rowAt_cell HI.out.ex 7, rowAt_cell HI.out.ex 8, rowAt_cell HI.out.en 0, rowAt_cell HI.out.en 1, rowAt_cell HI.out.en 2, rowAt_cell HI.out.en 3, rowAt_cell HI.out.kn.st 1, rowAt_cell HI.out.kn.yy 2⟩ (fun hHeld => ?_)
          clear hK K
          try simp only [Act.put, List.setIfInBounds_toArray, List.set_cons_zero, List.set_cons_succ]
          refine wpAnyH_ready (rs := [14]) (by kernel_rfl) (by simp) ?_
          refine AllReadyH.cons (o := { dst := some 7, op := Op.alloc 24, type := 0, pos := "stamp.go:115", after := #[], guard := none }) rfl (fun K hK => ?_) AllReadyH.nil
          go_simp
          have HC : Hid (rowAt (u3.alloc (.cells #[.int .i64 0, .int .i64 0, .int .i64 0, .int .i64 0] 24)) u3.heap.size = some #[.int .i64 0, .int .i64 0, .int .i64 0, .int .i64 0]) := Lib.hid (rowAt_new _ _ _)
          have hxb : x < u3.heap.size := rowAt_lt HI.out.ex
          have hnb : nb < u3.heap.size := rowAt_lt HI.out.en
          have hwb : w.heap.size ≤ u3.heap.size := HI.out.bl.size
          replace HI := Lib.hid (HI.out.past ((Below.refl u3.heap.size u3).alloc (Nat.le_refl _) (.cells #[.int .i64 0, .int .i64 0, .int .i64 0, .int .i64 0] 24)) rfl rfl rfl rfl)
          refine hK.out _ _ ⟨rowAt_cell HI.out.ex 0, rowAt_cell HI.out.ex 1, rowAt_cell HI.out.ex 2, rowAt_cell HI.out.ex 3, rowAt_cell HI.out.ex 4, rowAt_cell HI.out.ex 5, rowAt_cell HI.out.ex 6, rowAt_cell HI.out.ex 7, rowAt_cell HI.out.ex 8, rowAt_cell HI.out.en 0, rowAt_cell HI.out.en 1, rowAt_cell HI.out.en 2, rowAt_cell HI.out.en 3, rowAt_cell HI.out.kn.st 1, rowAt_cell HI.out.kn.yy 2⟩ (fun hHeld => ?_)
          clear hK K
          try simp only [Act.put, List.setIfInBounds_toArray, List.set_cons_zero, List.set_cons_succ]
          generalize (u3.alloc (.cells #[.int .i64 0, .int .i64 0, .int .i64 0, .int .i64 0] 24)) = u4 at hHeld HC HI ⊢
          generalize u3.heap.size = cb at HC hxb hnb hwb ⊢
          refine wpAnyH_ready (rs := [15]) (by kernel_rfl) (by simp) ?_
          refine AllReadyH.cons (o := { dst := none, op := Op.store 24 (Operand.tmp 7) (Operand.tmp 53), type := 0, pos := "stamp.go:115", after := #[{ on := 14, ground := Ground.data }, { on := 13, ground := Ground.data }, { on := 13, ground := Ground.chain }, { on := 0, ground := Ground.phase }, { on := 1, ground := Ground.phase }, { on := 2, ground := Ground.phase }, { on := 3, ground := Ground.phase }, { on := 4, ground := Ground.phase }, { on := 5, ground := Ground.phase }, { on := 6, ground := Ground.phase }, { on := 7, ground := Ground.phase }, { on := 8, ground := Ground.phase }, { on := 9, ground := Ground.phase }, { on := 10, ground := Ground.phase }, { on := 11, ground := Ground.phase }, { on := 12, ground := Ground.phase }, { on := 13, ground := Ground.phase }, { on := 14, ground := Ground.phase }], guard := none }) rfl (fun K hK => ?_) AllReadyH.nil
          have z0 : u4.cell? ⟨cb, 0, none⟩ = some (.int .i64 0) := rowAt_cell HC.out 0
          have z1 : u4.cell? ⟨cb, 1, none⟩ = some (.int .i64 0) := rowAt_cell HC.out 1
          have z2 : u4.cell? ⟨cb, 2, none⟩ = some (.int .i64 0) := rowAt_cell HC.out 2
          have z3 : u4.cell? ⟨cb, 3, none⟩ = some (.int .i64 0) := rowAt_cell HC.out 3
          have f0 : u4.frozen? ⟨cb, 0, none⟩ = false := rowAt_frz HC.out 0
          have f1 : u4.frozen? ⟨cb, 1, none⟩ = false := rowAt_frz HC.out 1
          have f2 : u4.frozen? ⟨cb, 2, none⟩ = false := rowAt_frz HC.out 2
          have f3 : u4.frozen? ⟨cb, 3, none⟩ = false := rowAt_frz HC.out 3
          go_simp
          have HG : Hid (u4.grownBy ((((u4.setCell ⟨cb, 0, none⟩ (.int .i64 2)).setCell ⟨cb, 1, none⟩ (.int .i64 0)).setCell ⟨cb, 2, none⟩ (.int .i64 0)).setCell ⟨cb, 3, none⟩ (.int .i64 0)) (some cb)) := Lib.hid ((((grown_set _ ⟨cb, 0, none⟩ _).trans (grown_set _ ⟨cb, 1, none⟩ _)).trans (grown_set _ ⟨cb, 2, none⟩ _)).trans (grown_set _ ⟨cb, 3, none⟩ _))
          replace HC : Hid (rowAt ((((u4.setCell ⟨cb, 0, none⟩ (.int .i64 2)).setCell ⟨cb, 1, none⟩ (.int .i64 0)).setCell ⟨cb, 2, none⟩ (.int .i64 0)).setCell ⟨cb, 3, none⟩ (.int .i64 0)) cb = some #[.int .i64 2, .int .i64 0, .int .i64 0, .int .i64 0]) := Lib.hid (rowAt_set (rowAt_set (rowAt_set (rowAt_set HC.out 0 _) 1 _) 2 _) 3 _)
          replace HI := Lib.hid (HI.out.far HG.out HL.out HKl.out hwb hxb hnb HG.out.size)
          refine hK.out _ _ ⟨rowAt_cell HI.out.ex 0, rowAt_cell HI.out.ex 1, rowAt_cell HI.out.ex 2, rowAt_cell HI.out.ex 3, rowAt_cell HI.out.ex 4, rowAt_cell HI.out.ex 5, rowAt_cell HI.out.ex 6, rowAt_cell HI.out.ex 7, rowAt_cell HI.out.ex 8, rowAt_cell HI.out.en 0, rowAt_cell HI.out.en 1, rowAt_cell HI.out.en 2, rowAt_cell HI.out.en 3, rowAt_cell HI.out.kn.st 1, rowAt_cell HI.out.kn.yy 2⟩ (fun hHeld => ?_)
          clear hK K
          try simp only [Act.put, List.setIfInBounds_toArray, List.set_cons_zero, List.set_cons_succ]
          refine wpAnyH_done (by kernel_rfl) ?_ _
          clear hHeld
          go_wp2_with fail
          go_meet
          case rel => exact ⟨⟨cb, rfl, HC.out, hwb, by omega⟩, HI.out.kn, HI.out.ka, HI.out.ex, HI.out.bl⟩
        · go_simp
          have HC : Hid (rowAt (u2.alloc (.cells #[.int .i64 0, .int .i64 0, .int .i64 0, .int .i64 0] 24)) u2.heap.size = some #[.int .i64 0, .int .i64 0, .int .i64 0, .int .i64 0]) := Lib.hid (rowAt_new _ _ _)
          have hxb : x < u2.heap.size := rowAt_lt HI.out.ex
          have hnb : nb < u2.heap.size := rowAt_lt HI.out.en
          have hwb : w.heap.size ≤ u2.heap.size := HI.out.bl.size
          replace HI := Lib.hid (HI.out.past ((Below.refl u2.heap.size u2).alloc (Nat.le_refl _) (.cells #[.int .i64 0, .int .i64 0, .int .i64 0, .int .i64 0] 24)) rfl rfl rfl rfl)
          refine hK.out _ _ ⟨rowAt_cell HI.out.ex 0, rowAt_cell HI.out.ex 1, rowAt_cell HI.out.ex 2, rowAt_cell HI.out.ex 3, rowAt_cell HI.out.ex 4, rowAt_cell HI.out.ex 5, rowAt_cell HI.out.ex 6, rowAt_cell HI.out.ex 7, rowAt_cell HI.out.ex 8, rowAt_cell HI.out.en 0, rowAt_cell HI.out.en 1, rowAt_cell HI.out.en 2, rowAt_cell HI.out.en 3, rowAt_cell HI.out.kn.st 1, rowAt_cell HI.out.kn.yy 2⟩ (fun hHeld => ?_)
          clear hK K
          try simp only [Act.put, List.setIfInBounds_toArray, List.set_cons_zero, List.set_cons_succ]
          generalize (u2.alloc (.cells #[.int .i64 0, .int .i64 0, .int .i64 0, .int .i64 0] 24)) = u6 at hHeld HC HI ⊢
          generalize u2.heap.size = cb at HC hxb hnb hwb ⊢
          refine wpAnyH_ready (rs := [13]) (by kernel_rfl) (by simp) ?_
          refine AllReadyH.cons (o := { dst := some 53, op := Op.call { callee := Callee.value (Operand.func 10), args := #[Operand.tmp 51, Operand.tmp 52], argTypes := #[24, 3] }, type := 24, pos := "stamp.go:115", after := #[{ on := 11, ground := Ground.data }, { on := 12, ground := Ground.data }, { on := 11, ground := Ground.chain }], guard := none }) rfl (fun K hK => ?_) AllReadyH.nil
          go_simp
          go_at_call 10
          refine (tick_c 1 0 0 0 0 _).mono ?_
          rintro e u7 ⟨rfl, hb⟩
          replace HI := Lib.hid (HI.out.past hb rfl rfl rfl rfl)
          replace HC := Lib.hid (rowAt_below HC.out hb rfl)
          rw [show tkV 1 0 0 0 0 = ck 2 0 0 0 from by kernel_rfl]
          unfold ck
          clear hb
          refine hK.out _ _ ⟨rowAt_cell HI.out.ex 0, rowAt_cell HI.out.ex 1, rowAt_cell HI.out.ex 2, rowAt_cell HI.out.ex 3, rowAt_cell HI.out.ex 4, rowAt_cell HI.out.ex 5, rowAt_cell HI.out.ex 6, rowAt_cell HI.out.ex 7, rowAt_cell HI.out.ex 8, rowAt_cell HI.out.en 0, rowAt_cell HI.out.en 1, rowAt_cell HI.out.en 2, rowAt_cell HI.out.en 3, rowAt_cell HI.out.kn.st 1, rowAt_cell HI.out.kn.yy 2⟩ (fun hHeld => ?_)
          clear hK K
          try simp only [Act.put, List.setIfInBounds_toArray, List.set_cons_zero, List.set_cons_succ]
          refine wpAnyH_ready (rs := [15]) (by kernel_rfl) (by simp) ?_
          refine AllReadyH.cons (o := { dst := none, op := Op.store 24 (Operand.tmp 7) (Operand.tmp 53), type := 0, pos := "stamp.go:115", after := #[{ on := 14, ground := Ground.data }, { on := 13, ground := Ground.data }, { on := 13, ground := Ground.chain }, { on := 0, ground := Ground.phase }, { on := 1, ground := Ground.phase }, { on := 2, ground := Ground.phase }, { on := 3, ground := Ground.phase }, { on := 4, ground := Ground.phase }, { on := 5, ground := Ground.phase }, { on := 6, ground := Ground.phase }, { on := 7, ground := Ground.phase }, { on := 8, ground := Ground.phase }, { on := 9, ground := Ground.phase }, { on := 10, ground := Ground.phase }, { on := 11, ground := Ground.phase }, { on := 12, ground := Ground.phase }, { on := 13, ground := Ground.phase }, { on := 14, ground := Ground.phase }], guard := none }) rfl (fun K hK => ?_) AllReadyH.nil
          have z0 : u7.cell? ⟨cb, 0, none⟩ = some (.int .i64 0) := rowAt_cell HC.out 0
          have z1 : u7.cell? ⟨cb, 1, none⟩ = some (.int .i64 0) := rowAt_cell HC.out 1
          have z2 : u7.cell? ⟨cb, 2, none⟩ = some (.int .i64 0) := rowAt_cell HC.out 2
          have z3 : u7.cell? ⟨cb, 3, none⟩ = some (.int .i64 0) := rowAt_cell HC.out 3
          have f0 : u7.frozen? ⟨cb, 0, none⟩ = false := rowAt_frz HC.out 0
          have f1 : u7.frozen? ⟨cb, 1, none⟩ = false := rowAt_frz HC.out 1
          have f2 : u7.frozen? ⟨cb, 2, none⟩ = false := rowAt_frz HC.out 2
          have f3 : u7.frozen? ⟨cb, 3, none⟩ = false := rowAt_frz HC.out 3
          go_simp
          have HG : Hid (u7.grownBy ((((u7.setCell ⟨cb, 0, none⟩ (.int .i64 2)).setCell ⟨cb, 1, none⟩ (.int .i64 0)).setCell ⟨cb, 2, none⟩ (.int .i64 0)).setCell ⟨cb, 3, none⟩ (.int .i64 0)) (some cb)) := Lib.hid ((((grown_set _ ⟨cb, 0, none⟩ _).trans (grown_set _ ⟨cb, 1, none⟩ _)).trans (grown_set _ ⟨cb, 2, none⟩ _)).trans (grown_set _ ⟨cb, 3, none⟩ _))
          replace HC : Hid (rowAt ((((u7.setCell ⟨cb, 0, none⟩ (.int .i64 2)).setCell ⟨cb, 1, none⟩ (.int .i64 0)).setCell ⟨cb, 2, none⟩ (.int .i64 0)).setCell ⟨cb, 3, none⟩ (.int .i64 0)) cb = some #[.int .i64 2, .int .i64 0, .int .i64 0, .int .i64 0]) := Lib.hid (rowAt_set (rowAt_set (rowAt_set (rowAt_set HC.out 0 _) 1 _) 2 _) 3 _)
          replace HI := Lib.hid (HI.out.far HG.out HL.out HKl.out hwb hxb hnb HG.out.size)
          refine hK.out _ _ ⟨rowAt_cell HI.out.ex 0, rowAt_cell HI.out.ex 1, rowAt_cell HI.out.ex 2, rowAt_cell HI.out.ex 3, rowAt_cell HI.out.ex 4, rowAt_cell HI.out.ex 5, rowAt_cell HI.out.ex 6, rowAt_cell HI.out.ex 7, rowAt_cell HI.out.ex 8, rowAt_cell HI.out.en 0, rowAt_cell HI.out.en 1, rowAt_cell HI.out.en 2, rowAt_cell HI.out.en 3, rowAt_cell HI.out.kn.st 1, rowAt_cell HI.out.kn.yy 2⟩ (fun hHeld => ?_)
          clear hK K
          try simp only [Act.put, List.setIfInBounds_toArray, List.set_cons_zero, List.set_cons_succ]
          refine wpAnyH_done (by kernel_rfl) ?_ _
          clear hHeld
          go_wp2_with fail
          go_meet
          case rel => exact ⟨⟨cb, rfl, HC.out, hwb, by omega⟩, HI.out.kn, HI.out.ka, HI.out.ex, HI.out.bl⟩
      · go_simp
        have HC : Hid (rowAt (u1.alloc (.cells #[.int .i64 0, .int .i64 0, .int .i64 0, .int .i64 0] 24)) u1.heap.size = some #[.int .i64 0, .int .i64 0, .int .i64 0, .int .i64 0]) := Lib.hid (rowAt_new _ _ _)
        have hxb : x < u1.heap.size := rowAt_lt HI.out.ex
        have hnb : nb < u1.heap.size := rowAt_lt HI.out.en
        have hwb : w.heap.size ≤ u1.heap.size := HI.out.bl.size
        replace HI := Lib.hid (HI.out.past ((Below.refl u1.heap.size u1).alloc (Nat.le_refl _) (.cells #[.int .i64 0, .int .i64 0, .int .i64 0, .int .i64 0] 24)) rfl rfl rfl rfl)
        refine hK.out _ _ ⟨rowAt_cell HI.out.ex 0, rowAt_cell HI.out.ex 1, rowAt_cell HI.out.ex 2, rowAt_cell HI.out.ex 3, rowAt_cell HI.out.ex 4, rowAt_cell HI.out.ex 5, rowAt_cell HI.out.ex 6, rowAt_cell HI.out.ex 7, rowAt_cell HI.out.ex 8, rowAt_cell HI.out.en 0, rowAt_cell HI.out.en 1, rowAt_cell HI.out.en 2, rowAt_cell HI.out.en 3, rowAt_cell HI.out.kn.st 1, rowAt_cell HI.out.kn.yy 2⟩ (fun hHeld => ?_)
        clear hK K
        try simp only [Act.put, List.setIfInBounds_toArray, List.set_cons_zero, List.set_cons_succ]
        generalize (u1.alloc (.cells #[.int .i64 0, .int .i64 0, .int .i64 0, .int .i64 0] 24)) = u9 at hHeld HC HI ⊢
        generalize u1.heap.size = cb at HC hxb hnb hwb ⊢
        refine wpAnyH_ready (rs := [11]) (by kernel_rfl) (by simp) ?_
        refine AllReadyH.cons (o := { dst := some 51, op := Op.call { callee := Callee.value (Operand.func 8), args := #[Operand.tmp 40, Operand.tmp 50], argTypes := #[24, 24] }, type := 24, pos := "stamp.go:115", after := #[{ on := 0, ground := Ground.data }, { on := 10, ground := Ground.data }, { on := 10, ground := Ground.chain }], guard := none }) rfl (fun K hK => ?_) AllReadyH.nil
        go_simp
        go_at_call 8
        refine (join_c 1 0 0 0 0 0 0 0 _).mono ?_
        rintro e u10 ⟨rfl, hb⟩
        replace HI := Lib.hid (HI.out.past hb rfl rfl rfl rfl)
        replace HC := Lib.hid (rowAt_below HC.out hb rfl)
        rw [show ck (max 1 0) (max 0 0) (max 0 0) (max 0 0) = ck 1 0 0 0 from by kernel_rfl]
        unfold ck
        clear hb
        refine hK.out _ _ ⟨rowAt_cell HI.out.ex 0, rowAt_cell HI.out.ex 1, rowAt_cell HI.out.ex 2, rowAt_cell HI.out.ex 3, rowAt_cell HI.out.ex 4, rowAt_cell HI.out.ex 5, rowAt_cell HI.out.ex 6, rowAt_cell HI.out.ex 7, rowAt_cell HI.out.ex 8, rowAt_cell HI.out.en 0, rowAt_cell HI.out.en 1, rowAt_cell HI.out.en 2, rowAt_cell HI.out.en 3, rowAt_cell HI.out.kn.st 1, rowAt_cell HI.out.kn.yy 2⟩ (fun hHeld => ?_)
        clear hK K
        try simp only [Act.put, List.setIfInBounds_toArray, List.set_cons_zero, List.set_cons_succ]
        refine wpAnyH_ready (rs := [13]) (by kernel_rfl) (by simp) ?_
        refine AllReadyH.cons (o := { dst := some 53, op := Op.call { callee := Callee.value (Operand.func 10), args := #[Operand.tmp 51, Operand.tmp 52], argTypes := #[24, 3] }, type := 24, pos := "stamp.go:115", after := #[{ on := 11, ground := Ground.data }, { on := 12, ground := Ground.data }, { on := 11, ground := Ground.chain }], guard := none }) rfl (fun K hK => ?_) AllReadyH.nil
        go_simp
        go_at_call 10
        refine (tick_c 1 0 0 0 0 _).mono ?_
        rintro e u11 ⟨rfl, hb⟩
        replace HI := Lib.hid (HI.out.past hb rfl rfl rfl rfl)
        replace HC := Lib.hid (rowAt_below HC.out hb rfl)
        rw [show tkV 1 0 0 0 0 = ck 2 0 0 0 from by kernel_rfl]
        unfold ck
        clear hb
        refine hK.out _ _ ⟨rowAt_cell HI.out.ex 0, rowAt_cell HI.out.ex 1, rowAt_cell HI.out.ex 2, rowAt_cell HI.out.ex 3, rowAt_cell HI.out.ex 4, rowAt_cell HI.out.ex 5, rowAt_cell HI.out.ex 6, rowAt_cell HI.out.ex 7, rowAt_cell HI.out.ex 8, rowAt_cell HI.out.en 0, rowAt_cell HI.out.en 1, rowAt_cell HI.out.en 2, rowAt_cell HI.out.en 3, rowAt_cell HI.out.kn.st 1, rowAt_cell HI.out.kn.yy 2⟩ (fun hHeld => ?_)
        clear hK K
        try simp only [Act.put, List.setIfInBounds_toArray, List.set_cons_zero, List.set_cons_succ]
        refine wpAnyH_ready (rs := [15]) (by kernel_rfl) (by simp) ?_
        refine AllReadyH.cons (o := { dst := none, op := Op.store 24 (Operand.tmp 7) (Operand.tmp 53), type := 0, pos := "stamp.go:115", after := #[{ on := 14, ground := Ground.data }, { on := 13, ground := Ground.data }, { on := 13, ground := Ground.chain }, { on := 0, ground := Ground.phase }, { on := 1, ground := Ground.phase }, { on := 2, ground := Ground.phase }, { on := 3, ground := Ground.phase }, { on := 4, ground := Ground.phase }, { on := 5, ground := Ground.phase }, { on := 6, ground := Ground.phase }, { on := 7, ground := Ground.phase }, { on := 8, ground := Ground.phase }, { on := 9, ground := Ground.phase }, { on := 10, ground := Ground.phase }, { on := 11, ground := Ground.phase }, { on := 12, ground := Ground.phase }, { on := 13, ground := Ground.phase }, { on := 14, ground := Ground.phase }], guard := none }) rfl (fun K hK => ?_) AllReadyH.nil
        have z0 : u11.cell? ⟨cb, 0, none⟩ = some (.int .i64 0) := rowAt_cell HC.out 0
        have z1 : u11.cell? ⟨cb, 1, none⟩ = some (.int .i64 0) := rowAt_cell HC.out 1
        have z2 : u11.cell? ⟨cb, 2, none⟩ = some (.int .i64 0) := rowAt_cell HC.out 2
        have z3 : u11.cell? ⟨cb, 3, none⟩ = some (.int .i64 0) := rowAt_cell HC.out 3
        have f0 : u11.frozen? ⟨cb, 0, none⟩ = false := rowAt_frz HC.out 0
        have f1 : u11.frozen? ⟨cb, 1, none⟩ = false := rowAt_frz HC.out 1
        have f2 : u11.frozen? ⟨cb, 2, none⟩ = false := rowAt_frz HC.out 2
        have f3 : u11.frozen? ⟨cb, 3, none⟩ = false := rowAt_frz HC.out 3
        go_simp
        have HG : Hid (u11.grownBy ((((u11.setCell ⟨cb, 0, none⟩ (.int .i64 2)).setCell ⟨cb, 1, none⟩ (.int .i64 0)).setCell ⟨cb, 2, none⟩ (.int .i64 0)).setCell ⟨cb, 3, none⟩ (.int .i64 0)) (some cb)) := Lib.hid ((((grown_set _ ⟨cb, 0, none⟩ _).trans (grown_set _ ⟨cb, 1, none⟩ _)).trans (grown_set _ ⟨cb, 2, none⟩ _)).trans (grown_set _ ⟨cb, 3, none⟩ _))
        replace HC : Hid (rowAt ((((u11.setCell ⟨cb, 0, none⟩ (.int .i64 2)).setCell ⟨cb, 1, none⟩ (.int .i64 0)).setCell ⟨cb, 2, none⟩ (.int .i64 0)).setCell ⟨cb, 3, none⟩ (.int .i64 0)) cb = some #[.int .i64 2, .int .i64 0, .int .i64 0, .int .i64 0]) := Lib.hid (rowAt_set (rowAt_set (rowAt_set (rowAt_set HC.out 0 _) 1 _) 2 _) 3 _)
        replace HI := Lib.hid (HI.out.far HG.out HL.out HKl.out hwb hxb hnb HG.out.size)
        refine hK.out _ _ ⟨rowAt_cell HI.out.ex 0, rowAt_cell HI.out.ex 1, rowAt_cell HI.out.ex 2, rowAt_cell HI.out.ex 3, rowAt_cell HI.out.ex 4, rowAt_cell HI.out.ex 5, rowAt_cell HI.out.ex 6, rowAt_cell HI.out.ex 7, rowAt_cell HI.out.ex 8, rowAt_cell HI.out.en 0, rowAt_cell HI.out.en 1, rowAt_cell HI.out.en 2, rowAt_cell HI.out.en 3, rowAt_cell HI.out.kn.st 1, rowAt_cell HI.out.kn.yy 2⟩ (fun hHeld => ?_)
        clear hK K
        try simp only [Act.put, List.setIfInBounds_toArray, List.set_cons_zero, List.set_cons_succ]
        refine wpAnyH_done (by kernel_rfl) ?_ _
        clear hHeld
        go_wp2_with fail
        go_meet
        case rel => exact ⟨⟨cb, rfl, HC.out, hwb, by omega⟩, HI.out.kn, HI.out.ka, HI.out.ex, HI.out.bl⟩
    · go_simp
      have HC : Hid (rowAt (u.alloc (.cells #[.int .i64 0, .int .i64 0, .int .i64 0, .int .i64 0] 24)) u.heap.size = some #[.int .i64 0, .int .i64 0, .int .i64 0, .int .i64 0]) := Lib.hid (rowAt_new _ _ _)
      have hxb : x < u.heap.size := rowAt_lt HI.out.ex
      have hnb : nb < u.heap.size := rowAt_lt HI.out.en
      have hwb : w.heap.size ≤ u.heap.size := HI.out.bl.size
      replace HI := Lib.hid (HI.out.past ((Below.refl u.heap.size u).alloc (Nat.le_refl _) (.cells #[.int .i64 0, .int .i64 0, .int .i64 0, .int .i64 0] 24)) rfl rfl rfl rfl)
      refine hK.out _ _ ⟨rowAt_cell HI.out.ex 0, rowAt_cell HI.out.ex 1, rowAt_cell HI.out.ex 2, rowAt_cell HI.out.ex 3, rowAt_cell HI.out.ex 4, rowAt_cell HI.out.ex 5, rowAt_cell HI.out.ex 6, rowAt_cell HI.out.ex 7, rowAt_cell HI.out.ex 8, rowAt_cell HI.out.en 0, rowAt_cell HI.out.en 1, rowAt_cell HI.out.en 2, rowAt_cell HI.out.en 3, rowAt_cell HI.out.kn.st 1, rowAt_cell HI.out.kn.yy 2⟩ (fun hHeld => ?_)
      clear hK K
      try simp only [Act.put, List.setIfInBounds_toArray, List.set_cons_zero, List.set_cons_succ]
      generalize (u.alloc (.cells #[.int .i64 0, .int .i64 0, .int .i64 0, .int .i64 0] 24)) = u13 at hHeld HC HI ⊢
      generalize u.heap.size = cb at HC hxb hnb hwb ⊢
      refine wpAnyH_ready (rs := [10]) (by kernel_rfl) (by simp) ?_
      refine AllReadyH.cons (o := { dst := some 50, op := Op.call { callee := Callee.value (Operand.func 34), args := #[Operand.tmp 41, Operand.tmp 42, Operand.tmp 49], argTypes := #[50, 44, 4] }, type := 24, pos := "stamp.go:115", after := #[{ on := 1, ground := Ground.data }, { on := 2, ground := Ground.data }, { on := 9, ground := Ground.data }], guard := none }) rfl (fun K hK => ?_) AllReadyH.nil
      go_simp
      go_at_call 34
      refine (joined_2 S _ _).mono ?_
      rintro e u14 ⟨rfl, hb⟩
      replace HI := Lib.hid (HI.out.past hb rfl rfl rfl rfl)
      replace HC := Lib.hid (rowAt_below HC.out hb rfl)
      unfold ck
      clear hb
      refine hK.out _ _ ⟨rowAt_cell HI.out.ex 0, rowAt_cell HI.out.ex 1, rowAt_cell HI.out.ex 2, rowAt_cell HI.out.ex 3, rowAt_cell HI.out.ex 4, rowAt_cell HI.out.ex 5, rowAt_cell HI.out.ex 6, rowAt_cell HI.out.ex 7, rowAt_cell HI.out.ex 8, rowAt_cell HI.out.en 0, rowAt_cell HI.out.en 1, rowAt_cell HI.out.en 2, rowAt_cell HI.out.en 3, rowAt_cell HI.out.kn.st 1, rowAt_cell HI.out.kn.yy 2⟩ (fun hHeld => ?_)
      clear hK K
      try simp only [Act.put, List.setIfInBounds_toArray, List.set_cons_zero, List.set_cons_succ]
      refine wpAnyH_ready (rs := [11]) (by kernel_rfl) (by simp) ?_
      refine AllReadyH.cons (o := { dst := some 51, op := Op.call { callee := Callee.value (Operand.func 8), args := #[Operand.tmp 40, Operand.tmp 50], argTypes := #[24, 24] }, type := 24, pos := "stamp.go:115", after := #[{ on := 0, ground := Ground.data }, { on := 10, ground := Ground.data }, { on := 10, ground := Ground.chain }], guard := none }) rfl (fun K hK => ?_) AllReadyH.nil
      go_simp
      go_at_call 8
      refine (join_c 1 0 0 0 0 0 0 0 _).mono ?_
      rintro e u15 ⟨rfl, hb⟩
      replace HI := Lib.hid (HI.out.past hb rfl rfl rfl rfl)
      replace HC := Lib.hid (rowAt_below HC.out hb rfl)
      rw [show ck (max 1 0) (max 0 0) (max 0 0) (max 0 0) = ck 1 0 0 0 from by kernel_rfl]
      unfold ck
      clear hb
      refine hK.out _ _ ⟨rowAt_cell HI.out.ex 0, rowAt_cell HI.out.ex 1, rowAt_cell HI.out.ex 2, rowAt_cell HI.out.ex 3, rowAt_cell HI.out.ex 4, rowAt_cell HI.out.ex 5, rowAt_cell HI.out.ex 6, rowAt_cell HI.out.ex 7, rowAt_cell HI.out.ex 8, rowAt_cell HI.out.en 0, rowAt_cell HI.out.en 1, rowAt_cell HI.out.en 2, rowAt_cell HI.out.en 3, rowAt_cell HI.out.kn.st 1, rowAt_cell HI.out.kn.yy 2⟩ (fun hHeld => ?_)
      clear hK K
      try simp only [Act.put, List.setIfInBounds_toArray, List.set_cons_zero, List.set_cons_succ]
      refine wpAnyH_ready (rs := [13]) (by kernel_rfl) (by simp) ?_
      refine AllReadyH.cons (o := { dst := some 53, op := Op.call { callee := Callee.value (Operand.func 10), args := #[Operand.tmp 51, Operand.tmp 52], argTypes := #[24, 3] }, type := 24, pos := "stamp.go:115", after := #[{ on := 11, ground := Ground.data }, { on := 12, ground := Ground.data }, { on := 11, ground := Ground.chain }], guard := none }) rfl (fun K hK => ?_) AllReadyH.nil
      go_simp
      go_at_call 10
      refine (tick_c 1 0 0 0 0 _).mono ?_
      rintro e u16 ⟨rfl, hb⟩
      replace HI := Lib.hid (HI.out.past hb rfl rfl rfl rfl)
      replace HC := Lib.hid (rowAt_below HC.out hb rfl)
      rw [show tkV 1 0 0 0 0 = ck 2 0 0 0 from by kernel_rfl]
      unfold ck
      clear hb
      refine hK.out _ _ ⟨rowAt_cell HI.out.ex 0, rowAt_cell HI.out.ex 1, rowAt_cell HI.out.ex 2, rowAt_cell HI.out.ex 3, rowAt_cell HI.out.ex 4, rowAt_cell HI.out.ex 5, rowAt_cell HI.out.ex 6, rowAt_cell HI.out.ex 7, rowAt_cell HI.out.ex 8, rowAt_cell HI.out.en 0, rowAt_cell HI.out.en 1, rowAt_cell HI.out.en 2, rowAt_cell HI.out.en 3, rowAt_cell HI.out.kn.st 1, rowAt_cell HI.out.kn.yy 2⟩ (fun hHeld => ?_)
      clear hK K
      try simp only [Act.put, List.setIfInBounds_toArray, List.set_cons_zero, List.set_cons_succ]
      refine wpAnyH_ready (rs := [15]) (by kernel_rfl) (by simp) ?_
      refine AllReadyH.cons (o := { dst := none, op := Op.store 24 (Operand.tmp 7) (Operand.tmp 53), type := 0, pos := "stamp.go:115", after := #[{ on := 14, ground := Ground.data }, { on := 13, ground := Ground.data }, { on := 13, ground := Ground.chain }, { on := 0, ground := Ground.phase }, { on := 1, ground := Ground.phase }, { on := 2, ground := Ground.phase }, { on := 3, ground := Ground.phase }, { on := 4, ground := Ground.phase }, { on := 5, ground := Ground.phase }, { on := 6, ground := Ground.phase }, { on := 7, ground := Ground.phase }, { on := 8, ground := Ground.phase }, { on := 9, ground := Ground.phase }, { on := 10, ground := Ground.phase }, { on := 11, ground := Ground.phase }, { on := 12, ground := Ground.phase }, { on := 13, ground := Ground.phase }, { on := 14, ground := Ground.phase }], guard := none }) rfl (fun K hK => ?_) AllReadyH.nil
      have z0 : u16.cell? ⟨cb, 0, none⟩ = some (.int .i64 0) := rowAt_cell HC.out 0
      have z1 : u16.cell? ⟨cb, 1, none⟩ = some (.int .i64 0) := rowAt_cell HC.out 1
      have z2 : u16.cell? ⟨cb, 2, none⟩ = some (.int .i64 0) := rowAt_cell HC.out 2
      have z3 : u16.cell? ⟨cb, 3, none⟩ = some (.int .i64 0) := rowAt_cell HC.out 3
      have f0 : u16.frozen? ⟨cb, 0, none⟩ = false := rowAt_frz HC.out 0
      have f1 : u16.frozen? ⟨cb, 1, none⟩ = false := rowAt_frz HC.out 1
      have f2 : u16.frozen? ⟨cb, 2, none⟩ = false := rowAt_frz HC.out 2
      have f3 : u16.frozen? ⟨cb, 3, none⟩ = false := rowAt_frz HC.out 3
      go_simp
      have HG : Hid (u16.grownBy ((((u16.setCell ⟨cb, 0, none⟩ (.int .i64 2)).setCell ⟨cb, 1, none⟩ (.int .i64 0)).setCell ⟨cb, 2, none⟩ (.int .i64 0)).setCell ⟨cb, 3, none⟩ (.int .i64 0)) (some cb)) := Lib.hid ((((grown_set _ ⟨cb, 0, none⟩ _).trans (grown_set _ ⟨cb, 1, none⟩ _)).trans (grown_set _ ⟨cb, 2, none⟩ _)).trans (grown_set _ ⟨cb, 3, none⟩ _))
      replace HC : Hid (rowAt ((((u16.setCell ⟨cb, 0, none⟩ (.int .i64 2)).setCell ⟨cb, 1, none⟩ (.int .i64 0)).setCell ⟨cb, 2, none⟩ (.int .i64 0)).setCell ⟨cb, 3, none⟩ (.int .i64 0)) cb = some #[.int .i64 2, .int .i64 0, .int .i64 0, .int .i64 0]) := Lib.hid (rowAt_set (rowAt_set (rowAt_set (rowAt_set HC.out 0 _) 1 _) 2 _) 3 _)
      replace HI := Lib.hid (HI.out.far HG.out HL.out HKl.out hwb hxb hnb HG.out.size)
      refine hK.out _ _ ⟨rowAt_cell HI.out.ex 0, rowAt_cell HI.out.ex 1, rowAt_cell HI.out.ex 2, rowAt_cell HI.out.ex 3, rowAt_cell HI.out.ex 4, rowAt_cell HI.out.ex 5, rowAt_cell HI.out.ex 6, rowAt_cell HI.out.ex 7, rowAt_cell HI.out.ex 8, rowAt_cell HI.out.en 0, rowAt_cell HI.out.en 1, rowAt_cell HI.out.en 2, rowAt_cell HI.out.en 3, rowAt_cell HI.out.kn.st 1, rowAt_cell HI.out.kn.yy 2⟩ (fun hHeld => ?_)
      clear hK K
      try simp only [Act.put, List.setIfInBounds_toArray, List.set_cons_zero, List.set_cons_succ]
      refine wpAnyH_done (by kernel_rfl) ?_ _
      clear hHeld
      go_wp2_with fail
      go_meet
      case rel => exact ⟨⟨cb, rfl, HC.out, hwb, by omega⟩, HI.out.kn, HI.out.ka, HI.out.ex, HI.out.bl⟩
  case rest =>
    obtain ⟨⟨cb, hs, hC, hwb, hbx⟩, hkn, hka, hex, hbl⟩ := hcut
    subst hs
    have hx : x = w.heap.size := HX.out
    have HP : Hid (Pt E Y R S K g0 p0 g1 p1 x cb (SA1 E Y R K m1 m2) #[.int .i64 1, .int .i64 0, .int .i64 0, .int .i64 0, .int .i64 0, .int .i64 0, .int .i64 0, .int .i64 0, .int .i64 0, .int .i64 0, .int .i64 0, .int .i64 0] #[.int .i64 0, .int .i64 7, .int .i64 0, .int .i64 0, .int .i64 0, .bool false, .int .i64 0, .int .i64 0, .int .i64 3] #[.int .i64 2, .int .i64 0, .int .i64 0, .int .i64 0] w wc) := Lib.hid ⟨hkn, hka, hex, hC, fun B _ _ h => hbl.mono h, by have h1 := HL.out.2.2.2.1; have h2 := HKl.out; exact ⟨by omega, by omega, by omega, by omega, hKS⟩, hls, hlk⟩
    clear hkn hka hex hbl hC hwb hbx HI HL HKl HX hx
    go_wp2
    refine wp_region_held_drew (S := (fun w' => w'.cell? ⟨cb, 0, none⟩ = some (.int .i64 2) ∧ w'.cell? ⟨cb, 1, none⟩ = some (.int .i64 0) ∧ w'.cell? ⟨cb, 2, none⟩ = some (.int .i64 0) ∧ w'.cell? ⟨cb, 3, none⟩ = some (.int .i64 0) ∧ w'.cell? ⟨S, 41, none⟩ = some (.slice (some ⟨K, 0, none⟩) 3 3))) (by kernel_rfl) ⟨rowAt_cell HP.out.ec 0, rowAt_cell HP.out.ec 1, rowAt_cell HP.out.ec 2, rowAt_cell HP.out.ec 3, rowAt_cell HP.out.kn.st 41⟩ (fun hHeld => ?_)
    replace HP := Lib.hid HP.out.same
    generalize wc.drew = v at hHeld HP ⊢
    refine wpAnyH_take (i := 0) (oi := { dst := some 54, op := Op.move (Operand.tmp 0), type := 50, pos := "stamp.go:116", after := #[], guard := none }) (v := ?_) rfl (by kernel_rfl) (by kernel_rfl) (by kernel_rfl) (fun _ _ _ h => h) (Or.inl ⟨by rfl, ?_⟩) (by assumption) ?_
    rotate_left
    · (intro w9 hSw; (try dsimp only at hSw); go_split_ands; go_simp; with_reducible rfl)
    try simp only [Act.put, List.setIfInBounds_toArray, List.set_cons_zero, List.set_cons_succ]
    refine wpAnyH_take (i := 1) (oi := { dst := some 55, op := Op.move (Operand.tmp 5), type := 3, pos := "stamp.go:116", after := #[], guard := none }) (v := ?_) rfl (by kernel_rfl) (by kernel_rfl) (by kernel_rfl) (fun _ _ _ h => h) (Or.inl ⟨by rfl, ?_⟩) (by assumption) ?_
    rotate_left
    · (intro w9 hSw; (try dsimp only at hSw); go_split_ands; go_simp; with_reducible rfl)
    try simp only [Act.put, List.setIfInBounds_toArray, List.set_cons_zero, List.set_cons_succ]
    refine wpAnyH_take (i := 2) (oi := { dst := some 56, op := Op.move (Operand.tmp 0), type := 50, pos := "stamp.go:116", after := #[], guard := none }) (v := ?_) rfl (by kernel_rfl) (by kernel_rfl) (by kernel_rfl) (fun _ _ _ h => h) (Or.inl ⟨by rfl, ?_⟩) (by assumption) ?_
    rotate_left
    · (intro w9 hSw; (try dsimp only at hSw); go_split_ands; go_simp; with_reducible rfl)
    try simp only [Act.put, List.setIfInBounds_toArray, List.set_cons_zero, List.set_cons_succ]
    refine wpAnyH_take (i := 3) (oi := { dst := some 57, op := Op.nilCheck (Operand.tmp 56), type := 0, pos := "stamp.go:116", after := #[{ on := 2, ground := Ground.data }], guard := none }) (v := ?_) rfl (by kernel_rfl) (by kernel_rfl) (by kernel_rfl) (fun _ _ _ h => h) (Or.inl ⟨by rfl, ?_⟩) (by assumption) ?_
    rotate_left
    · (intro w9 hSw; (try dsimp only at hSw); go_split_ands; go_simp; with_reducible rfl)
    try simp only [Act.put, List.setIfInBounds_toArray, List.set_cons_zero, List.set_cons_succ]
    refine wpAnyH_take (i := 4) (oi := { dst := some 58, op := Op.fieldAddr 59 (Operand.tmp 57) 8, type := 0, pos := "stamp.go:116", after := #[{ on := 3, ground := Ground.data }], guard := none }) (v := ?_) rfl (by kernel_rfl) (by kernel_rfl) (by kernel_rfl) (fun _ _ _ h => h) (Or.inl ⟨by rfl, ?_⟩) (by assumption) ?_
    rotate_left
    · (intro w9 hSw; (try dsimp only at hSw); go_split_ands; go_simp; with_reducible rfl)
    try simp only [Act.put, List.setIfInBounds_toArray, List.set_cons_zero, List.set_cons_succ]
    refine wpAnyH_take (i := 5) (oi := { dst := some 59, op := Op.load 37 (Operand.tmp 58), type := 37, pos := "stamp.go:116", after := #[{ on := 4, ground := Ground.data }], guard := none }) (v := ?_) rfl (by kernel_rfl) (by kernel_rfl) (by kernel_rfl) (fun _ _ _ h => h) (Or.inl ⟨by rfl, ?_⟩) (by assumption) ?_
    rotate_left
    · (intro w9 hSw; (try dsimp only at hSw); go_split_ands; go_simp; with_reducible rfl)
    try simp only [Act.put, List.setIfInBounds_toArray, List.set_cons_zero, List.set_cons_succ]
    refine wpAnyH_take (i := 6) (oi := { dst := some 60, op := Op.move (Operand.tmp 1), type := 3, pos := "stamp.go:116", after := #[{ on := 12, ground := Ground.gcOnly Departure.lateStores }], guard := none }) (v := ?_) rfl (by kernel_rfl) (by kernel_rfl) (by kernel_rfl) (fun _ _ _ h => h) (Or.inl ⟨by rfl, ?_⟩) (by assumption) ?_
    rotate_left
    · (intro w9 hSw; (try dsimp only at hSw); go_split_ands; go_simp; with_reducible rfl)
    try simp only [Act.put, List.setIfInBounds_toArray, List.set_cons_zero, List.set_cons_succ]
    refine wpAnyH_take (i := 7) (oi := { dst := some 61, op := Op.load 24 (Operand.tmp 7), type := 24, pos := "stamp.go:116", after := #[], guard := none }) (v := ?_) rfl (by kernel_rfl) (by kernel_rfl) (by kernel_rfl) (fun _ _ _ h => h) (Or.inl ⟨by rfl, ?_⟩) (by assumption) ?_
    rotate_left
    · (intro w9 hSw; (try dsimp only at hSw); go_split_ands; go_simp; with_reducible rfl)
    try simp only [Act.put, List.setIfInBounds_toArray, List.set_cons_zero, List.set_cons_succ]
    refine wpAnyH_take (i := 8) (oi := { dst := some 62, op := Op.load 24 (Operand.tmp 7), type := 24, pos := "stamp.go:116", after := #[{ on := 12, ground := Ground.gcOnly Departure.lateStores }], guard := none }) (v := ?_) rfl (by kernel_rfl) (by kernel_rfl) (by kernel_rfl) (fun _ _ _ h => h) (Or.inl ⟨by rfl, ?_⟩) (by assumption) ?_
    rotate_left
    · (intro w9 hSw; (try dsimp only at hSw); go_split_ands; go_simp; with_reducible rfl)
    try simp only [Act.put, List.setIfInBounds_toArray, List.set_cons_zero, List.set_cons_succ]
    refine wpAnyH_take (i := 9) (oi := { dst := some 63, op := Op.nilCheck (Operand.tmp 54), type := 0, pos := "stamp.go:116", after := #[{ on := 0, ground := Ground.data }], guard := none }) (v := ?_) rfl (by kernel_rfl) (by kernel_rfl) (by kernel_rfl) (fun _ _ _ h => h) (Or.inl ⟨by rfl, ?_⟩) (by assumption) ?_
    rotate_left
    · (intro w9 hSw; (try dsimp only at hSw); go_split_ands; go_simp; with_reducible rfl)
    try simp only [Act.put, List.setIfInBounds_toArray, List.set_cons_zero, List.set_cons_succ]
    refine wpAnyH_take (i := 10) (oi := { dst := some 64, op := Op.fieldAddr 59 (Operand.tmp 63) 4, type := 0, pos := "stamp.go:116", after := #[{ on := 9, ground := Ground.data }], guard := none }) (v := ?_) rfl (by kernel_rfl) (by kernel_rfl) (by kernel_rfl) (fun _ _ _ h => h) (Or.inl ⟨by rfl, ?_⟩) (by assumption) ?_
    rotate_left
    · (intro w9 hSw; (try dsimp only at hSw); go_split_ands; go_simp; with_reducible rfl)
    try simp only [Act.put, List.setIfInBounds_toArray, List.set_cons_zero, List.set_cons_succ]
    refine wpAnyH_take (i := 11) (oi := { dst := some 65, op := Op.indexAddr 57 (Operand.tmp 64) (Operand.tmp 55), type := 0, pos := "stamp.go:116", after := #[{ on := 10, ground := Ground.data }, { on := 1, ground := Ground.data }, { on := 0, ground := Ground.phase }, { on := 1, ground := Ground.phase }, { on := 2, ground := Ground.textOnly Departure.lateStores }, { on := 3, ground := Ground.textOnly Departure.lateStoresUnsure }, { on := 4, ground := Ground.textOnly Departure.lateStoresUnsure }, { on := 5, ground := Ground.phase }, { on := 6, ground := Ground.textOnly Departure.lateStores }, { on := 7, ground := Ground.phase }, { on := 8, ground := Ground.textOnly Departure.lateStores }], guard := none }) (v := ?_) rfl (by kernel_rfl) (by kernel_rfl) (by kernel_rfl) (fun _ _ _ h => h) (Or.inl ⟨by rfl, ?_⟩) (by assumption) ?_
    rotate_left
    · (intro w9 hSw; (try dsimp only at hSw); go_split_ands; go_simp; with_reducible rfl)
    try simp only [Act.put, List.setIfInBounds_toArray, List.set_cons_zero, List.set_cons_succ]
    refine wpAnyH_ready (rs := [12]) (by kernel_rfl) (by simp) ?_
    refine AllReadyH.cons (o := { dst := none, op := Op.store 24 (Operand.tmp 65) (Operand.tmp 61), type := 0, pos := "stamp.go:116", after := #[{ on := 11, ground := Ground.data }, { on := 7, ground := Ground.data }, { on := 0, ground := Ground.phase }, { on := 1, ground := Ground.phase }, { on := 2, ground := Ground.textOnly Departure.lateStores }, { on := 3, ground := Ground.textOnly Departure.lateStoresUnsure }, { on := 4, ground := Ground.textOnly Departure.lateStoresUnsure }, { on := 5, ground := Ground.phase }, { on := 6, ground := Ground.textOnly Departure.lateStores }, { on := 7, ground := Ground.phase }, { on := 8, ground := Ground.textOnly Departure.lateStores }], guard := none }) rfl (fun K' hK => ?_) AllReadyH.nil
    have z0 : v.cell? ⟨S, 7, none⟩ = some (.int .i64 1) := rowAt_cell HP.out.kn.st 7
    have z1 : v.cell? ⟨S, 8, none⟩ = some (.int .i64 0) := rowAt_cell HP.out.kn.st 8
    have z2 : v.cell? ⟨S, 9, none⟩ = some (.int .i64 0) := rowAt_cell HP.out.kn.st 9
    have z3 : v.cell? ⟨S, 10, none⟩ = some (.int .i64 0) := rowAt_cell HP.out.kn.st 10
    have f0 : v.frozen? ⟨S, 7, none⟩ = false := rowAt_frz HP.out.kn.st 7
    have f1 : v.frozen? ⟨S, 8, none⟩ = false := rowAt_frz HP.out.kn.st 8
    have f2 : v.frozen? ⟨S, 9, none⟩ = false := rowAt_frz HP.out.kn.st 9
    have f3 : v.frozen? ⟨S, 10, none⟩ = false := rowAt_frz HP.out.kn.st 10
    go_simp
    clear z0 f0 z1 f1 z2 f2 z3 f3
    replace HP := Lib.hid (HP.out.putS (w' := ((((v.setCell ⟨S, 7, none⟩ (.int .i64 2)).setCell ⟨S, 8, none⟩ (.int .i64 0)).setCell ⟨S, 9, none⟩ (.int .i64 0)).setCell ⟨S, 10, none⟩ (.int .i64 0))) (SA' := SN1 E Y R K m1 m2) ((((grown_set _ ⟨S, 7, none⟩ _).trans (grown_set _ ⟨S, 8, none⟩ _)).trans (grown_set _ ⟨S, 9, none⟩ _)).trans (grown_set _ ⟨S, 10, none⟩ _)) ((rowAt_set (rowAt_set (rowAt_set (rowAt_set HP.out.kn.st 7 _) 8 _) 9 _) 10 _).trans (by kernel_rfl)) rfl rfl rfl)
    refine hK.out _ _ ⟨rowAt_cell HP.out.ec 0, rowAt_cell HP.out.ec 1, rowAt_cell HP.out.ec 2, rowAt_cell HP.out.ec 3, rowAt_cell HP.out.kn.st 41⟩ (fun hHeld => ?_)
    clear hK K'
    try simp only [Act.put, List.setIfInBounds_toArray, List.set_cons_zero, List.set_cons_succ]
    generalize ((((v.setCell ⟨S, 7, none⟩ (.int .i64 2)).setCell ⟨S, 8, none⟩ (.int .i64 0)).setCell ⟨S, 9, none⟩ (.int .i64 0)).setCell ⟨S, 10, none⟩ (.int .i64 0)) = v1 at hHeld HP ⊢
    refine wpAnyH_take (i := 13) (oi := { dst := some 66, op := Op.indexAddr 37 (Operand.tmp 59) (Operand.tmp 60), type := 0, pos := "stamp.go:116", after := #[{ on := 5, ground := Ground.data }, { on := 6, ground := Ground.data }, { on := 0, ground := Ground.phase }, { on := 1, ground := Ground.phase }, { on := 2, ground := Ground.phase }, { on := 3, ground := Ground.phase }, { on := 4, ground := Ground.phase }, { on := 5, ground := Ground.phase }, { on := 6, ground := Ground.phase }, { on := 7, ground := Ground.phase }, { on := 8, ground := Ground.phase }, { on := 9, ground := Ground.phase }, { on := 10, ground := Ground.phase }, { on := 11, ground := Ground.phase }, { on := 12, ground := Ground.phase }], guard := none }) (v := ?_) rfl (by kernel_rfl) (by kernel_rfl) (by kernel_rfl) (fun _ _ _ h => h) (Or.inl ⟨by rfl, ?_⟩) (by assumption) ?_
    rotate_left
    · (intro w9 hSw; (try dsimp only at hSw); go_split_ands; go_simp; with_reducible rfl)
    try simp only [Act.put, List.setIfInBounds_toArray, List.set_cons_zero, List.set_cons_succ]
    refine wpAnyH_ready (rs := [14]) (by kernel_rfl) (by simp) ?_
    refine AllReadyH.cons (o := { dst := none, op := Op.store 24 (Operand.tmp 66) (Operand.tmp 62), type := 0, pos := "stamp.go:116", after := #[{ on := 13, ground := Ground.data }, { on := 8, ground := Ground.data }, { on := 12, ground := Ground.chain }, { on := 0, ground := Ground.phase }, { on := 1, ground := Ground.phase }, { on := 2, ground := Ground.phase }, { on := 3, ground := Ground.phase }, { on := 4, ground := Ground.phase }, { on := 5, ground := Ground.phase }, { on := 6, ground := Ground.phase }, { on := 7, ground := Ground.phase }, { on := 8, ground := Ground.phase }, { on := 9, ground := Ground.phase }, { on := 10, ground := Ground.phase }, { on := 11, ground := Ground.phase }, { on := 12, ground := Ground.phase }], guard := none }) rfl (fun K' hK => ?_) AllReadyH.nil
    have z0 : v1.cell? ⟨K, 8, none⟩ = some (.int .i64 0) := rowAt_cell HP.out.ka 8
    have z1 : v1.cell? ⟨K, 9, none⟩ = some (.int .i64 0) := rowAt_cell HP.out.ka 9
    have z2 : v1.cell? ⟨K, 10, none⟩ = some (.int .i64 0) := rowAt_cell HP.out.ka 10
    have z3 : v1.cell? ⟨K, 11, none⟩ = some (.int .i64 0) := rowAt_cell HP.out.ka 11
    have f0 : v1.frozen? ⟨K, 8, none⟩ = false := rowAt_frz HP.out.ka 8
    have f1 : v1.frozen? ⟨K, 9, none⟩ = false := rowAt_frz HP.out.ka 9
    have f2 : v1.frozen? ⟨K, 10, none⟩ = false := rowAt_frz HP.out.ka 10
    have f3 : v1.frozen? ⟨K, 11, none⟩ = false := rowAt_frz HP.out.ka 11
    go_simp
    clear z0 f0 z1 f1 z2 f2 z3 f3
    replace HP := Lib.hid (HP.out.putK (w' := ((((v1.setCell ⟨K, 8, none⟩ (.int .i64 2)).setCell ⟨K, 9, none⟩ (.int .i64 0)).setCell ⟨K, 10, none⟩ (.int .i64 0)).setCell ⟨K, 11, none⟩ (.int .i64 0))) (KA' := #[.int .i64 1, .int .i64 0, .int .i64 0, .int .i64 0, .int .i64 0, .int .i64 0, .int .i64 0, .int .i64 0, .int .i64 2, .int .i64 0, .int .i64 0, .int .i64 0]) ((((grown_set _ ⟨K, 8, none⟩ _).trans (grown_set _ ⟨K, 9, none⟩ _)).trans (grown_set _ ⟨K, 10, none⟩ _)).trans (grown_set _ ⟨K, 11, none⟩ _)) ((rowAt_set (rowAt_set (rowAt_set (rowAt_set HP.out.ka 8 _) 9 _) 10 _) 11 _).trans (by kernel_rfl)))
    refine hK.out _ _ ⟨rowAt_cell HP.out.ec 0, rowAt_cell HP.out.ec 1, rowAt_cell HP.out.ec 2, rowAt_cell HP.out.ec 3, rowAt_cell HP.out.kn.st 41⟩ (fun hHeld => ?_)
    clear hK K'
    try simp only [Act.put, List.setIfInBounds_toArray, List.set_cons_zero, List.set_cons_succ]
    generalize ((((v1.setCell ⟨K, 8, none⟩ (.int .i64 2)).setCell ⟨K, 9, none⟩ (.int .i64 0)).setCell ⟨K, 10, none⟩ (.int .i64 0)).setCell ⟨K, 11, none⟩ (.int .i64 0)) = v2 at hHeld HP ⊢
    refine wpAnyH_done (by kernel_rfl) ?_ _
    clear hHeld
    go_wp2
    refine wp_region_held_drew (S := (fun w' => w'.cell? ⟨cb, 0, none⟩ = some (.int .i64 2) ∧ w'.cell? ⟨cb, 1, none⟩ = some (.int .i64 0) ∧ w'.cell? ⟨cb, 2, none⟩ = some (.int .i64 0) ∧ w'.cell? ⟨cb, 3, none⟩ = some (.int .i64 0) ∧ w'.cell? ⟨S, 41, none⟩ = some (.slice (some ⟨K, 0, none⟩) 3 3))) (by kernel_rfl) ⟨rowAt_cell HP.out.ec 0, rowAt_cell HP.out.ec 1, rowAt_cell HP.out.ec 2, rowAt_cell HP.out.ec 3, rowAt_cell HP.out.kn.st 41⟩ (fun hHeld => ?_)
    replace HP := Lib.hid HP.out.same
    generalize hv7 : World.drew _ = v7 at hHeld HP ⊢
    clear hv7
    refine wpAnyH_take (i := 0) (oi := { dst := some 67, op := Op.move (Operand.tmp 0), type := 50, pos := "stamp.go:117", after := #[], guard := none }) (v := ?_) rfl (by kernel_rfl) (by kernel_rfl) (by kernel_rfl) (fun _ _ _ h => h) (Or.inl ⟨by rfl, ?_⟩) (by assumption) ?_
    rotate_left
    · (intro w9 hSw; (try dsimp only at hSw); go_split_ands; go_simp; with_reducible rfl)
    try simp only [Act.put, List.setIfInBounds_toArray, List.set_cons_zero, List.set_cons_succ]
    refine wpAnyH_take (i := 1) (oi := { dst := some 68, op := Op.move (Operand.tmp 5), type := 3, pos := "stamp.go:117", after := #[], guard := none }) (v := ?_) rfl (by kernel_rfl) (by kernel_rfl) (by kernel_rfl) (fun _ _ _ h => h) (Or.inl ⟨by rfl, ?_⟩) (by assumption) ?_
    rotate_left
    · (intro w9 hSw; (try dsimp only at hSw); go_split_ands; go_simp; with_reducible rfl)
    try simp only [Act.put, List.setIfInBounds_toArray, List.set_cons_zero, List.set_cons_succ]
    refine wpAnyH_take (i := 2) (oi := { dst := some 69, op := Op.nilCheck (Operand.tmp 67), type := 0, pos := "stamp.go:117", after := #[{ on := 0, ground := Ground.data }], guard := none }) (v := ?_) rfl (by kernel_rfl) (by kernel_rfl) (by kernel_rfl) (fun _ _ _ h => h) (Or.inl ⟨by rfl, ?_⟩) (by assumption) ?_
    rotate_left
    · (intro w9 hSw; (try dsimp only at hSw); go_split_ands; go_simp; with_reducible rfl)
    try simp only [Act.put, List.setIfInBounds_toArray, List.set_cons_zero, List.set_cons_succ]
    refine wpAnyH_take (i := 3) (oi := { dst := some 70, op := Op.fieldAddr 59 (Operand.tmp 69) 3, type := 0, pos := "stamp.go:117", after := #[{ on := 2, ground := Ground.data }], guard := none }) (v := ?_) rfl (by kernel_rfl) (by kernel_rfl) (by kernel_rfl) (fun _ _ _ h => h) (Or.inl ⟨by rfl, ?_⟩) (by assumption) ?_
    rotate_left
    · (intro w9 hSw; (try dsimp only at hSw); go_split_ands; go_simp; with_reducible rfl)
    try simp only [Act.put, List.setIfInBounds_toArray, List.set_cons_zero, List.set_cons_succ]
    refine wpAnyH_take (i := 4) (oi := { dst := some 71, op := Op.indexAddr 24 (Operand.tmp 70) (Operand.tmp 68), type := 0, pos := "stamp.go:117", after := #[{ on := 3, ground := Ground.data }, { on := 1, ground := Ground.data }], guard := none }) (v := ?_) rfl (by kernel_rfl) (by kernel_rfl) (by kernel_rfl) (fun _ _ _ h => h) (Or.inl ⟨by rfl, ?_⟩) (by assumption) ?_
    rotate_left
    · (intro w9 hSw; (try dsimp only at hSw); go_split_ands; go_simp; with_reducible rfl)
    try simp only [Act.put, List.setIfInBounds_toArray, List.set_cons_zero, List.set_cons_succ]
    refine wpAnyH_take (i := 7) (oi := { dst := some 74, op := Op.nilCheck (Operand.tmp 67), type := 0, pos := "stamp.go:117", after := #[{ on := 0, ground := Ground.data }], guard := none }) (v := ?_) rfl (by kernel_rfl) (by kernel_rfl) (by kernel_rfl) (fun _ _ _ h => h) (Or.inl ⟨by rfl, ?_⟩) (by assumption) ?_
    rotate_left
    · (intro w9 hSw; (try dsimp only at hSw); go_split_ands; go_simp; with_reducible rfl)
    try simp only [Act.put, List.setIfInBounds_toArray, List.set_cons_zero, List.set_cons_succ]
    refine wpAnyH_take (i := 8) (oi := { dst := some 75, op := Op.fieldAddr 59 (Operand.tmp 74) 3, type := 0, pos := "stamp.go:117", after := #[{ on := 7, ground := Ground.data }], guard := none }) (v := ?_) rfl (by kernel_rfl) (by kernel_rfl) (by kernel_rfl) (fun _ _ _ h => h) (Or.inl ⟨by rfl, ?_⟩) (by assumption) ?_
    rotate_left
    · (intro w9 hSw; (try dsimp only at hSw); go_split_ands; go_simp; with_reducible rfl)
    try simp only [Act.put, List.setIfInBounds_toArray, List.set_cons_zero, List.set_cons_succ]
    refine wpAnyH_ready (rs := [5]) (by kernel_rfl) (by simp) ?_
    refine AllReadyH.cons (o := { dst := some 72, op := Op.load 3 (Operand.tmp 71), type := 3, pos := "stamp.go:117", after := #[{ on := 4, ground := Ground.data }], guard := none }) rfl (fun K' hK => ?_) AllReadyH.nil
    have z0 : v7.cell? ⟨S, 3, none⟩ = some (.int .i64 1) := rowAt_cell HP.out.kn.st 3
    go_simp
    clear z0
    refine hK.out _ _ ⟨rowAt_cell HP.out.ec 0, rowAt_cell HP.out.ec 1, rowAt_cell HP.out.ec 2, rowAt_cell HP.out.ec 3, rowAt_cell HP.out.kn.st 41⟩ (fun hHeld => ?_)
    clear hK K'
    try simp only [Act.put, List.setIfInBounds_toArray, List.set_cons_zero, List.set_cons_succ]
    refine wpAnyH_take (i := 6) (oi := { dst := some 73, op := Op.binOp BinOp.add 3 (Operand.tmp 72) (Operand.const (Value.int IntKind.i64 1)) 3, type := 3, pos := "stamp.go:117", after := #[{ on := 5, ground := Ground.data }], guard := none }) (v := ?_) rfl (by kernel_rfl) (by kernel_rfl) (by kernel_rfl) (fun _ _ _ h => h) (Or.inl ⟨by rfl, ?_⟩) (by assumption) ?_
    rotate_left
    · (intro w9 hSw; (try dsimp only at hSw); go_split_ands; go_simp; with_reducible rfl)
    try simp only [Act.put, List.setIfInBounds_toArray, List.set_cons_zero, List.set_cons_succ]
    refine wpAnyH_take (i := 9) (oi := { dst := some 76, op := Op.indexAddr 24 (Operand.tmp 75) (Operand.tmp 68), type := 0, pos := "stamp.go:117", after := #[{ on := 8, ground := Ground.data }, { on := 1, ground := Ground.data }, { on := 0, ground := Ground.phase }, { on := 1, ground := Ground.phase }, { on := 2, ground := Ground.phase }, { on := 3, ground := Ground.phase }, { on := 4, ground := Ground.phase }, { on := 5, ground := Ground.phase }, { on := 6, ground := Ground.phase }], guard := none }) (v := ?_) rfl (by kernel_rfl) (by kernel_rfl) (by kernel_rfl) (fun _ _ _ h => h) (Or.inl ⟨by rfl, ?_⟩) (by assumption) ?_
    rotate_left
    · (intro w9 hSw; (try dsimp only at hSw); go_split_ands; go_simp; with_reducible rfl)
    try simp only [Act.put, List.setIfInBounds_toArray, List.set_cons_zero, List.set_cons_succ]
    refine wpAnyH_ready (rs := [10]) (by kernel_rfl) (by simp) ?_
    refine AllReadyH.cons (o := { dst := none, op := Op.store 3 (Operand.tmp 76) (Operand.tmp 73), type := 0, pos := "stamp.go:117", after := #[{ on := 9, ground := Ground.data }, { on := 6, ground := Ground.data }, { on := 0, ground := Ground.phase }, { on := 1, ground := Ground.phase }, { on := 2, ground := Ground.phase }, { on := 3, ground := Ground.phase }, { on := 4, ground := Ground.phase }, { on := 5, ground := Ground.phase }, { on := 6, ground := Ground.phase }], guard := none }) rfl (fun K' hK => ?_) AllReadyH.nil
    have z0 : v7.cell? ⟨S, 3, none⟩ = some (.int .i64 1) := rowAt_cell HP.out.kn.st 3
    have f0 : v7.frozen? ⟨S, 3, none⟩ = false := rowAt_frz HP.out.kn.st 3
    go_simp
    clear z0 f0
    replace HP := Lib.hid (HP.out.putS (w' := (v7.setCell ⟨S, 3, none⟩ (.int .i64 (IntKind.i64.wrap 2)))) (SA' := SA2 E Y R K m1 m2) (grown_set _ ⟨S, 3, none⟩ _) ((rowAt_set HP.out.kn.st 3 _).trans (by kernel_rfl)) rfl rfl rfl)
    refine hK.out _ _ ⟨rowAt_cell HP.out.ec 0, rowAt_cell HP.out.ec 1, rowAt_cell HP.out.ec 2, rowAt_cell HP.out.ec 3, rowAt_cell HP.out.kn.st 41⟩ (fun hHeld => ?_)
    clear hK K'
    try simp only [Act.put, List.setIfInBounds_toArray, List.set_cons_zero, List.set_cons_succ]
    refine wpAnyH_done (by kernel_rfl) ?_ _
    generalize (v7.setCell ⟨S, 3, none⟩ (.int .i64 (IntKind.i64.wrap 2))) = v8 at hHeld HP ⊢
    clear hHeld
    have x0 : v8.cell? ⟨x, 0, none⟩ = some (.int .i64 0) := rowAt_cell HP.out.ex 0
    have x1 : v8.cell? ⟨x, 1, none⟩ = some (.int .i64 7) := rowAt_cell HP.out.ex 1
    have x2 : v8.cell? ⟨x, 2, none⟩ = some (.int .i64 0) := rowAt_cell HP.out.ex 2
    have x3 : v8.cell? ⟨x, 3, none⟩ = some (.int .i64 0) := rowAt_cell HP.out.ex 3
    have x4 : v8.cell? ⟨x, 4, none⟩ = some (.int .i64 0) := rowAt_cell HP.out.ex 4
    have x5 : v8.cell? ⟨x, 5, none⟩ = some (.bool false) := rowAt_cell HP.out.ex 5
    have x6 : v8.cell? ⟨x, 6, none⟩ = some (.int .i64 0) := rowAt_cell HP.out.ex 6
    have x7 : v8.cell? ⟨x, 7, none⟩ = some (.int .i64 0) := rowAt_cell HP.out.ex 7
    have x8 : v8.cell? ⟨x, 8, none⟩ = some (.int .i64 3) := rowAt_cell HP.out.ex 8
    go_wp2
    go_end0
    exact ⟨rfl, HP.out.kn, HP.out.ka, HP.out.bl⟩
set_option maxRecDepth 100000 in
set_option maxHeartbeats 4000000 in
theorem stamp_1 {E Y R S K g0 p0 g1 p1 : Nat} {m1 m2 : Value} (w : World) (hk : Kn E Y R S g0 p0 g1 p1 (SA2 E Y R K m1 m2) w) (hls : E ≠ S ∧ Y ≠ S ∧ R ≠ S ∧ g0 ≠ S ∧ g1 ≠ S) (hlk : E ≠ K ∧ Y ≠ K ∧ R ≠ K ∧ g0 ≠ K ∧ g1 ≠ K) (hKS : K ≠ S) (hka : rowAt w K = some #[.int .i64 1, .int .i64 0, .int .i64 0, .int .i64 0, .int .i64 0, .int .i64 0, .int .i64 0, .int .i64 0, .int .i64 2, .int .i64 0, .int .i64 0, .int .i64 0]) : Calls Try.prog 29 #[.pointer (some ⟨S, 0, none⟩), .int .i64 1] w (StampP E Y R S K g0 p0 g1 p1 (SA3 E Y R K m1 m2) #[.int .i64 1, .int .i64 0, .int .i64 0, .int .i64 0, .int .i64 1, .int .i64 1, .int .i64 0, .int .i64 0, .int .i64 2, .int .i64 0, .int .i64 0, .int .i64 0] w) := by
  have k1 := hk.past ((Below.refl w.heap.size w).alloc (Nat.le_refl _) (.cells #[.int .i64 1, .int .i64 7, .int .i64 0, .int .i64 0, .int .i64 0, .bool false, .int .i64 0, .int .i64 0, .int .i64 2] 44)) rfl
  have k2 := hk.past (((Below.refl w.heap.size w).alloc (Nat.le_refl _) (.cells #[.int .i64 1, .int .i64 7, .int .i64 0, .int .i64 0, .int .i64 0, .bool false, .int .i64 0, .int .i64 0, .int .i64 2] 44)).alloc (by simp) (.cells #[.int .i64 0, .int .i64 0, .int .i64 0, .int .i64 0] 24)) rfl
  have k3 := hk.past (((Below.refl w.heap.size w).alloc (Nat.le_refl _) (.cells #[.int .i64 1, .int .i64 7, .int .i64 0, .int .i64 0, .int .i64 0, .bool false, .int .i64 0, .int .i64 0, .int .i64 2] 44)).alloc (by simp) (.cells #[.int .i64 1, .int .i64 0, .int .i64 0, .int .i64 0] 24)) rfl
  have s0 : w.cell? ⟨S, 0, none⟩ = some (.slice (some ⟨E, 0, none⟩) 3 3) := rowAt_cell hk.st 0
  have ev0 : w.cell? ⟨E, 9, none⟩ = some (.int .i64 1) := rowAt_cell hk.ev 9
  have ev1 : w.cell? ⟨E, 10, none⟩ = some (.int .i64 7) := rowAt_cell hk.ev 10
  have ev2 : w.cell? ⟨E, 11, none⟩ = some (.int .i64 0) := rowAt_cell hk.ev 11
  have ev3 : w.cell? ⟨E, 12, none⟩ = some (.int .i64 0) := rowAt_cell hk.ev 12
  have ev4 : w.cell? ⟨E, 13, none⟩ = some (.int .i64 0) := rowAt_cell hk.ev 13
  have ev5 : w.cell? ⟨E, 14, none⟩ = some (.bool false) := rowAt_cell hk.ev 14
  have ev6 : w.cell? ⟨E, 15, none⟩ = some (.int .i64 0) := rowAt_cell hk.ev 15
  have ev7 : w.cell? ⟨E, 16, none⟩ = some (.int .i64 0) := rowAt_cell hk.ev 16
  have ev8 : w.cell? ⟨E, 17, none⟩ = some (.int .i64 2) := rowAt_cell hk.ev 17
  have no0 : (w.alloc (.cells #[.int .i64 1, .int .i64 7, .int .i64 0, .int .i64 0, .int .i64 0, .bool false, .int .i64 0, .int .i64 0, .int .i64 2] 44)).cell? ⟨S, 11, none⟩ = some (.int .i64 0) := rowAt_cell k1.st 11
  have no1 : (w.alloc (.cells #[.int .i64 1, .int .i64 7, .int .i64 0, .int .i64 0, .int .i64 0, .bool false, .int .i64 0, .int .i64 0, .int .i64 2] 44)).cell? ⟨S, 12, none⟩ = some (.int .i64 0) := rowAt_cell k1.st 12
  have no2 : (w.alloc (.cells #[.int .i64 1, .int .i64 7, .int .i64 0, .int .i64 0, .int .i64 0, .bool false, .int .i64 0, .int .i64 0, .int .i64 2] 44)).cell? ⟨S, 13, none⟩ = some (.int .i64 0) := rowAt_cell k1.st 13
  have no3 : (w.alloc (.cells #[.int .i64 1, .int .i64 7, .int .i64 0, .int .i64 0, .int .i64 0, .bool false, .int .i64 0, .int .i64 0, .int .i64 2] 44)).cell? ⟨S, 14, none⟩ = some (.int .i64 0) := rowAt_cell k1.st 14
  have go0 : ((w.alloc (.cells #[.int .i64 1, .int .i64 7, .int .i64 0, .int .i64 0, .int .i64 0, .bool false, .int .i64 0, .int .i64 0, .int .i64 2] 44)).alloc (.cells #[.int .i64 0, .int .i64 0, .int .i64 0, .int .i64 0] 24)).cell? ⟨S, 3, none⟩ = some (.int .i64 2) := rowAt_cell k2.st 3
  have go1 : ((w.alloc (.cells #[.int .i64 1, .int .i64 7, .int .i64 0, .int .i64 0, .int .i64 0, .bool false, .int .i64 0, .int .i64 0, .int .i64 2] 44)).alloc (.cells #[.int .i64 0, .int .i64 0, .int .i64 0, .int .i64 0] 24)).cell? ⟨S, 4, none⟩ = some (.int .i64 0) := rowAt_cell k2.st 4
  have go2 : ((w.alloc (.cells #[.int .i64 1, .int .i64 7, .int .i64 0, .int .i64 0, .int .i64 0, .bool false, .int .i64 0, .int .i64 0, .int .i64 2] 44)).alloc (.cells #[.int .i64 0, .int .i64 0, .int .i64 0, .int .i64 0] 24)).cell? ⟨S, 5, none⟩ = some (.int .i64 0) := rowAt_cell k2.st 5
  have go3 : ((w.alloc (.cells #[.int .i64 1, .int .i64 7, .int .i64 0, .int .i64 0, .int .i64 0, .bool false, .int .i64 0, .int .i64 0, .int .i64 2] 44)).alloc (.cells #[.int .i64 0, .int .i64 0, .int .i64 0, .int .i64 0] 24)).cell? ⟨S, 6, none⟩ = some (.int .i64 0) := rowAt_cell k2.st 6
  have be0 : ((w.alloc (.cells #[.int .i64 1, .int .i64 7, .int .i64 0, .int .i64 0, .int .i64 0, .bool false, .int .i64 0, .int .i64 0, .int .i64 2] 44)).alloc (.cells #[.int .i64 0, .int .i64 0, .int .i64 0, .int .i64 0] 24)).cell? ⟨S, 27, none⟩ = some (.int .i64 1) := rowAt_cell k2.st 27
  have be1 : ((w.alloc (.cells #[.int .i64 1, .int .i64 7, .int .i64 0, .int .i64 0, .int .i64 0, .bool false, .int .i64 0, .int .i64 0, .int .i64 2] 44)).alloc (.cells #[.int .i64 0, .int .i64 0, .int .i64 0, .int .i64 0] 24)).cell? ⟨S, 28, none⟩ = some (.int .i64 0) := rowAt_cell k2.st 28
  have be2 : ((w.alloc (.cells #[.int .i64 1, .int .i64 7, .int .i64 0, .int .i64 0, .int .i64 0, .bool false, .int .i64 0, .int .i64 0, .int .i64 2] 44)).alloc (.cells #[.int .i64 0, .int .i64 0, .int .i64 0, .int .i64 0] 24)).cell? ⟨S, 29, none⟩ = some (.int .i64 0) := rowAt_cell k2.st 29
  have be3 : ((w.alloc (.cells #[.int .i64 1, .int .i64 7, .int .i64 0, .int .i64 0, .int .i64 0, .bool false, .int .i64 0, .int .i64 0, .int .i64 2] 44)).alloc (.cells #[.int .i64 0, .int .i64 0, .int .i64 0, .int .i64 0] 24)).cell? ⟨S, 30, none⟩ = some (.int .i64 0) := rowAt_cell k2.st 30
  have HL : Hid (E < w.heap.size ∧ Y < w.heap.size ∧ R < w.heap.size ∧ S < w.heap.size ∧ g0 < w.heap.size ∧ g1 < w.heap.size) := Lib.hid hk.lts
  have HKl : Hid (K < w.heap.size) := Lib.hid (rowAt_lt hka)
  have HI : Hid (In w E Y R S K g0 p0 g1 p1 w.heap.size (w.heap.size + 1) (SA2 E Y R K m1 m2) #[.int .i64 1, .int .i64 0, .int .i64 0, .int .i64 0, .int .i64 0, .int .i64 0, .int .i64 0, .int .i64 0, .int .i64 2, .int .i64 0, .int .i64 0, .int .i64 0] #[.int .i64 1, .int .i64 7, .int .i64 0, .int .i64 0, .int .i64 0, .bool false, .int .i64 0, .int .i64 0, .int .i64 2] #[.int .i64 1, .int .i64 0, .int .i64 0, .int .i64 0] ((w.alloc (.cells #[.int .i64 1, .int .i64 7, .int .i64 0, .int .i64 0, .int .i64 0, .bool false, .int .i64 0, .int .i64 0, .int .i64 2] 44)).alloc (.cells #[.int .i64 1, .int .i64 0, .int .i64 0, .int .i64 0] 24))) := Lib.hid ⟨k3, rowAt_past (rowAt_past hka _) _, rowAt_past (rowAt_new _ _ _) _, (by have := rowAt_new (w.alloc (.cells #[.int .i64 1, .int .i64 7, .int .i64 0, .int .i64 0, .int .i64 0, .bool false, .int .i64 0, .int .i64 0, .int .i64 2] 44)) #[.int .i64 1, .int .i64 0, .int .i64 0, .int .i64 0] 24; simpa using this), ((Below.refl w.heap.size w).alloc (Nat.le_refl _) _).alloc (by simp) _⟩
  clear hk k1 k2 k3 hka
  go_enter Try.func29, Try.ntmps29
  go_upto_region 5 with (fail)
  clear s0 ev0 ev1 ev2 ev3 ev4 ev5 ev6 ev7 ev8 no0 no1 no2 no3 go0 go1 go2 go3 be0 be1 be2 be3
  obtain ⟨U, hU⟩ : ∃ U, U = ((w.alloc (.cells #[.int .i64 1, .int .i64 7, .int .i64 0, .int .i64 0, .int .i64 0, .bool false, .int .i64 0, .int .i64 0, .int .i64 2] 44)).alloc (.cells #[.int .i64 1, .int .i64 0, .int .i64 0, .int .i64 0] 24)) := ⟨_, rfl⟩
  rw [← hU] at HI ⊢
  clear hU
  obtain ⟨x, hx⟩ : ∃ x, x = w.heap.size := ⟨_, rfl⟩
  have HX := Lib.hid hx
  replace HI : Hid (In w E Y R S K g0 p0 g1 p1 x (x + 1) (SA2 E Y R K m1 m2) #[.int .i64 1, .int .i64 0, .int .i64 0, .int .i64 0, .int .i64 0, .int .i64 0, .int .i64 0, .int .i64 0, .int .i64 2, .int .i64 0, .int .i64 0, .int .i64 0] #[.int .i64 1, .int .i64 7, .int .i64 0, .int .i64 0, .int .i64 0, .bool false, .int .i64 0, .int .i64 0, .int .i64 2] #[.int .i64 1, .int .i64 0, .int .i64 0, .int .i64 0] U) := by rw [hx]; exact HI
  rw [← hx]
  clear hx
  generalize x + 1 = nb at HI ⊢
  go_cut [7] from 40 to 53 (fun s wx => CutP w E Y R S K g0 p0 g1 p1 x (SA2 E Y R K m1 m2) #[.int .i64 1, .int .i64 0, .int .i64 0, .int .i64 0, .int .i64 0, .int .i64 0, .int .i64 0, .int .i64 0, .int .i64 2, .int .i64 0, .int .i64 0, .int .i64 0] #[.int .i64 1, .int .i64 7, .int .i64 0, .int .i64 0, .int .i64 0, .bool false, .int .i64 0, .int .i64 0, .int .i64 2] #[.int .i64 1, .int .i64 1, .int .i64 0, .int .i64 0] s wx)
  case first =>
    go_wp2
    refine wp_region_held_drew (S := (fun w' => w'.cell? ⟨x, 0, none⟩ = some (.int .i64 1) ∧ w'.cell? ⟨x, 1, none⟩ = some (.int .i64 7) ∧ w'.cell? ⟨x, 2, none⟩ = some (.int .i64 0) ∧ w'.cell? ⟨x, 3, none⟩ = some (.int .i64 0) ∧ w'.cell? ⟨x, 4, none⟩ = some (.int .i64 0) ∧ w'.cell? ⟨x, 5, none⟩ = some (.bool false) ∧ w'.cell? ⟨x, 6, none⟩ = some (.int .i64 0) ∧ w'.cell? ⟨x, 7, none⟩ = some (.int .i64 0) ∧ w'.cell? ⟨x, 8, none⟩ = some (.int .i64 2) ∧ w'.cell? ⟨nb, 0, none⟩ = some (.int .i64 1) ∧ w'.cell? ⟨nb, 1, none⟩ = some (.int .i64 0) ∧ w'.cell? ⟨nb, 2, none⟩ = some (.int .i64 0) ∧ w'.cell? ⟨nb, 3, none⟩ = some (.int .i64 0) ∧ w'.cell? ⟨S, 1, none⟩ = some (.slice (some ⟨Y, 0, none⟩) 3 3) ∧ w'.cell? ⟨Y, 1, none⟩ = some (.bool false))) (by kernel_rfl) ⟨rowAt_cell HI.out.ex 0, rowAt_cell HI.out.ex 1, rowAt_cell HI.out.ex 2, rowAt_cell HI.out.ex 3, rowAt_cell HI.out.ex 4, rowAt_cell HI.out.ex 5, rowAt_cell HI.out.ex 6, rowAt_cell HI.out.ex 7, rowAt_cell HI.out.ex 8, rowAt_cell HI.out.en 0, rowAt_cell HI.out.en 1, rowAt_cell HI.out.en 2, rowAt_cell HI.out.en 3, rowAt_cell HI.out.kn.st 1, rowAt_cell HI.out.kn.yy 1⟩ (fun hHeld => ?_)
    replace HI := Lib.hid (HI.out.past (Below.refl U.heap.size U).drew rfl rfl rfl rfl)
    generalize U.drew = u at hHeld HI ⊢
    refine wpAnyH_take (i := 0) (oi := { dst := some 40, op := Op.load 24 (Operand.tmp 6), type := 24, pos := "stamp.go:115", after := #[], guard := none }) (v := ?_) rfl (by kernel_rfl) (by kernel_rfl) (by kernel_rfl) (fun _ _ _ h => h) (Or.inl ⟨by rfl, ?_⟩) (by assumption) ?_
    rotate_left
    · (intro w0 hSw; (try dsimp only at hSw); go_split_ands; go_simp; with_reducible rfl)
    try simp only [Act.put, List.setIfInBounds_toArray, List.set_cons_zero, List.set_cons_succ]
    refine wpAnyH_take (i := 1) (oi := { dst := some 41, op := Op.move (Operand.tmp 0), type := 50, pos := "stamp.go:115", after := #[], guard := none }) (v := ?_) rfl (by kernel_rfl) (by kernel_rfl) (by kernel_rfl) (fun _ _ _ h => h) (Or.inl ⟨by rfl, ?_⟩) (by assumption) ?_
    rotate_left
    · (intro w0 hSw; (try dsimp only at hSw); go_split_ands; go_simp; with_reducible rfl)
    try simp only [Act.put, List.setIfInBounds_toArray, List.set_cons_zero, List.set_cons_succ]
    refine wpAnyH_take (i := 2) (oi := { dst := some 42, op := Op.load 44 (Operand.tmp 4), type := 44, pos := "stamp.go:115", after := #[], guard := none }) (v := ?_) rfl (by kernel_rfl) (by kernel_rfl) (by kernel_rfl) (fun _ _ _ h => h) (Or.inl ⟨by rfl, ?_⟩) (by assumption) ?_
    rotate_left
    · (intro w0 hSw; (try dsimp only at hSw); go_split_ands; go_simp; with_reducible rfl)
    try simp only [Act.put, List.setIfInBounds_toArray, List.set_cons_zero, List.set_cons_succ]
    refine wpAnyH_take (i := 3) (oi := { dst := some 43, op := Op.move (Operand.tmp 0), type := 50, pos := "stamp.go:115", after := #[], guard := none }) (v := ?_) rfl (by kernel_rfl) (by kernel_rfl) (by kernel_rfl) (fun _ _ _ h => h) (Or.inl ⟨by rfl, ?_⟩) (by assumption) ?_
    rotate_left
    · (intro w0 hSw; (try dsimp only at hSw); go_split_ands; go_simp; with_reducible rfl)
    try simp only [Act.put, List.setIfInBounds_toArray, List.set_cons_zero, List.set_cons_succ]
    refine wpAnyH_take (i := 4) (oi := { dst := some 44, op := Op.nilCheck (Operand.tmp 43), type := 0, pos := "stamp.go:115", after := #[{ on := 3, ground := Ground.data }], guard := none }) (v := ?_) rfl (by kernel_rfl) (by kernel_rfl) (by kernel_rfl) (fun _ _ _ h => h) (Or.inl ⟨by rfl, ?_⟩) (by assumption) ?_
    rotate_left
    · (intro w0 hSw; (try dsimp only at hSw); go_split_ands; go_simp; with_reducible rfl)
    try simp only [Act.put, List.setIfInBounds_toArray, List.set_cons_zero, List.set_cons_succ]
    refine wpAnyH_take (i := 5) (oi := { dst := some 45, op := Op.fieldAddr 59 (Operand.tmp 44) 1, type := 0, pos := "stamp.go:115", after := #[{ on := 4, ground := Ground.data }], guard := none }) (v := ?_) rfl (by kernel_rfl) (by kernel_rfl) (by kernel_rfl) (fun _ _ _ h => h) (Or.inl ⟨by rfl, ?_⟩) (by assumption) ?_
    rotate_left
    · (intro w0 hSw; (try dsimp only at hSw); go_split_ands; go_simp; with_reducible rfl)
    try simp only [Act.put, List.setIfInBounds_toArray, List.set_cons_zero, List.set_cons_succ]
    refine wpAnyH_take (i := 6) (oi := { dst := some 46, op := Op.load 51 (Operand.tmp 45), type := 51, pos := "stamp.go:115", after := #[{ on := 5, ground := Ground.data }], guard := none }) (v := ?_) rfl (by kernel_rfl) (by kernel_rfl) (by kernel_rfl) (fun _ _ _ h => h) (Or.inl ⟨by rfl, ?_⟩) (by assumption) ?_
    rotate_left
    · (intro w0 hSw; (try dsimp only at hSw); go_split_ands; go_simp; with_reducible rfl)
    try simp only [Act.put, List.setIfInBounds_toArray, List.set_cons_zero, List.set_cons_succ]
    refine wpAnyH_take (i := 7) (oi := { dst := some 47, op := Op.move (Operand.tmp 1), type := 3, pos := "stamp.go:115", after := #[], guard := none }) (v := ?_) rfl (by kernel_rfl) (by kernel_rfl) (by kernel_rfl) (fun _ _ _ h => h) (Or.inl ⟨by rfl, ?_⟩) (by assumption) ?_
    rotate_left
    · (intro w0 hSw; (try dsimp only at hSw); go_split_ands; go_simp; with_reducible rfl)
    try simp only [Act.put, List.setIfInBounds_toArray, List.set_cons_zero, List.set_cons_succ]
    refine wpAnyH_take (i := 8) (oi := { dst := some 48, op := Op.indexAddr 51 (Operand.tmp 46) (Operand.tmp 47), type := 0, pos := "stamp.go:115", after := #[{ on := 6, ground := Ground.data }, { on := 7, ground := Ground.data }], guard := none }) (v := ?_) rfl (by kernel_rfl) (by kernel_rfl) (by kernel_rfl) (fun _ _ _ h => h) (Or.inl ⟨by rfl, ?_⟩) (by assumption) ?_
    rotate_left
    · (intro w0 hSw; (try dsimp only at hSw); go_split_ands; go_simp; with_reducible rfl)
    try simp only [Act.put, List.setIfInBounds_toArray, List.set_cons_zero, List.set_cons_succ]
    refine wpAnyH_take (i := 9) (oi := { dst := some 49, op := Op.load 4 (Operand.tmp 48), type := 4, pos := "stamp.go:115", after := #[{ on := 8, ground := Ground.data }], guard := none }) (v := ?_) rfl (by kernel_rfl) (by kernel_rfl) (by kernel_rfl) (fun _ _ _ h => h) (Or.inl ⟨by rfl, ?_⟩) (by assumption) ?_
    rotate_left
    · (intro w0 hSw; (try dsimp only at hSw); go_split_ands; go_simp; with_reducible rfl)
    try simp only [Act.put, List.setIfInBounds_toArray, List.set_cons_zero, List.set_cons_succ]
    refine wpAnyH_take (i := 12) (oi := { dst := some 52, op := Op.move (Operand.tmp 5), type := 3, pos := "stamp.go:115", after := #[], guard := none }) (v := ?_) rfl (by kernel_rfl) (by kernel_rfl) (by kernel_rfl) (fun _ _ _ h => h) (Or.inl ⟨by rfl, ?_⟩) (by assumption) ?_
    rotate_left
    · (intro w0 hSw; (try dsimp only at hSw); go_split_ands; go_simp; with_reducible rfl)
    try simp only [Act.put, List.setIfInBounds_toArray, List.set_cons_zero, List.set_cons_succ]
    refine wpAnyH_ready (rs := [10, 14]) (by kernel_rfl) (by simp) ?_
    refine AllReadyH.cons (o := { dst := some 50, op := Op.call { callee := Callee.value (Operand.func 34), args := #[Operand.tmp 41, Operand.tmp 42, Operand.tmp 49], argTypes := #[50, 44, 4] }, type := 24, pos := "stamp.go:115", after := #[{ on := 1, ground := Ground.data }, { on := 2, ground := Ground.data }, { on := 9, ground := Ground.data }], guard := none }) rfl (fun K hK => ?_) (AllReadyH.cons (o := { dst := some 7, op := Op.alloc 24, type := 0, pos := "stamp.go:115", after := #[], guard := none }) rfl (fun K hK => ?_) AllReadyH.nil)
    · go_simp
      go_at_call 34
      refine (joined_1 S _ _).mono ?_
      rintro e u1 ⟨rfl, hb⟩
      replace HI := Lib.hid (HI.out.past hb rfl rfl rfl rfl)
      unfold ck
      clear hb
      refine hK.out _ _ ⟨rowAt_cell HI.out.ex 0, rowAt_cell HI.out.ex 1, rowAt_cell HI.out.ex 2, rowAt_cell HI.out.ex 3, rowAt_cell HI.out.ex 4, rowAt_cell HI.out.ex 5, rowAt_cell HI.out.ex 6, rowAt_cell HI.out.ex 7, rowAt_cell HI.out.ex 8, rowAt_cell HI.out.en 0, rowAt_cell HI.out.en 1, rowAt_cell HI.out.en 2, rowAt_cell HI.out.en 3, rowAt_cell HI.out.kn.st 1, rowAt_cell HI.out.kn.yy 1⟩ (fun hHeld => ?_)
      clear hK K
      try simp only [Act.put, List.setIfInBounds_toArray, List.set_cons_zero, List.set_cons_succ]
      refine wpAnyH_ready (rs := [11, 14]) (by kernel_rfl) (by simp) ?_
      refine AllReadyH.cons (o := { dst := some 51, op := Op.call { callee := Callee.value (Operand.func 8), args := #[Operand.tmp 40, Operand.tmp 50], argTypes := #[24, 24] }, type := 24, pos := "stamp.go:115", after := #[{ on := 0, ground := Ground.data }, { on := 10, ground := Ground.data }, { on := 10, ground := Ground.chain }], guard := none }) rfl (fun K hK => ?_) (AllReadyH.cons (o := { dst := some 7, op := Op.alloc 24, type := 0, pos := "stamp.go:115", after := #[], guard := none }) rfl (fun K hK => ?_) AllReadyH.nil)
      · go_simp
        go_at_call 8
        refine (join_c 1 0 0 0 0 0 0 0 _).mono ?_
        rintro e u2 ⟨rfl, hb⟩
        replace HI := Lib.hid (HI.out.past hb rfl rfl rfl rfl)
        rw [show ck (max 1 0) (max 0 0) (max 0 0) (max 0 0) = ck 1 0 0 0 from by kernel_rfl]
        unfold ck
        clear hb
        refine hK.out _ _ ⟨rowAt_cell HI.out.ex 0, rowAt_cell HI.out.ex 1, rowAt_cell HI.out.ex 2, rowAt_cell HI.out.ex 3, rowAt_cell HI.out.ex 4, rowAt_cell HI.out.ex 5, rowAt_cell HI.out.ex 6, rowAt_cell HI.out.ex 7, rowAt_cell HI.out.ex 8, rowAt_cell HI.out.en 0, rowAt_cell HI.out.en 1, rowAt_cell HI.out.en 2, rowAt_cell HI.out.en 3, rowAt_cell HI.out.kn.st 1, rowAt_cell HI.out.kn.yy 1⟩ (fun hHeld => ?_)
        clear hK K
        try simp only [Act.put, List.setIfInBounds_toArray, List.set_cons_zero, List.set_cons_succ]
        refine wpAnyH_ready (rs := [13, 14]) (by kernel_rfl) (by simp) ?_
        refine AllReadyH.cons (o := { dst := some 53, op := Op.call { callee := Callee.value (Operand.func 10), args := #[Operand.tmp 51, Operand.tmp 52], argTypes := #[24, 3] }, type := 24, pos := "stamp.go:115", after := #[{ on := 11, ground := Ground.data }, { on := 12, ground := Ground.data }, { on := 11, ground := Ground.chain }], guard := none }) rfl (fun K hK => ?_) (AllReadyH.cons (o := { dst := some 7, op := Op.alloc 24, type := 0, pos := "stamp.go:115", after := #[], guard := none }) rfl (fun K hK => ?_) AllReadyH.nil)
        · go_simp
          go_at_call 10
          refine (tick_c 1 0 0 0 1 _).mono ?_
          rintro e u3 ⟨rfl, hb⟩
          replace HI := Lib.hid (HI.out.past hb rfl rfl rfl rfl)
          rw [show tkV 1 0 0 0 1 = ck 1 1 0 0 from by kernel_rfl]
          unfold ck
          clear hb
          refine hK.out _ _ ⟨rowAt_cell HI.out.ex 0, rowAt_cell HI.out.ex 1, rowAt_cell HI.out.ex 2, rowAt_cell HI.out.ex 3, rowAt_cell HI.out.ex 4, rowAt_cell HI.out.ex 5, rowAt_cell HI.out.ex 6, rowAt_cell HI.out.ex 7, rowAt_cell HI.out.ex 8, rowAt_cell HI.out.en 0, rowAt_cell HI.out.en 1, rowAt_cell HI.out.en 2, rowAt_cell HI.out.en 3, rowAt_cell HI.out.kn.st 1, rowAt_cell HI.out.kn.yy 1⟩ (fun hHeld => ?_)
          clear hK K
          try simp only [Act.put, List.setIfInBounds_toArray, List.set_cons_zero, List.set_cons_succ]
          refine wpAnyH_ready (rs := [14]) (by kernel_rfl) (by simp) ?_
          refine AllReadyH.cons (o := { dst := some 7, op := Op.alloc 24, type := 0, pos := "stamp.go:115", after := #[], guard := none }) rfl (fun K hK => ?_) AllReadyH.nil
          go_simp
          have HC : Hid (rowAt (u3.alloc (.cells #[.int .i64 0, .int .i64 0, .int .i64 0, .int .i64 0] 24)) u3.heap.size = some #[.int .i64 0, .int .i64 0, .int .i64 0, .int .i64 0]) := Lib.hid (rowAt_new _ _ _)
          have hxb : x < u3.heap.size := rowAt_lt HI.out.ex
          have hnb : nb < u3.heap.size := rowAt_lt HI.out.en
          have hwb : w.heap.size ≤ u3.heap.size := HI.out.bl.size
          replace HI := Lib.hid (HI.out.past ((Below.refl u3.heap.size u3).alloc (Nat.le_refl _) (.cells #[.int .i64 0, .int .i64 0, .int .i64 0, .int .i64 0] 24)) rfl rfl rfl rfl)
          refine hK.out _ _ ⟨rowAt_cell HI.out.ex 0, rowAt_cell HI.out.ex 1, rowAt_cell HI.out.ex 2, rowAt_cell HI.out.ex 3, rowAt_cell HI.out.ex 4, rowAt_cell HI.out.ex 5, rowAt_cell HI.out.ex 6, rowAt_cell HI.out.ex 7, rowAt_cell HI.out.ex 8, rowAt_cell HI.out.en 0, rowAt_cell HI.out.en 1, rowAt_cell HI.out.en 2, rowAt_cell HI.out.en 3, rowAt_cell HI.out.kn.st 1, rowAt_cell HI.out.kn.yy 1⟩ (fun hHeld => ?_)
          clear hK K
          try simp only [Act.put, List.setIfInBounds_toArray, List.set_cons_zero, List.set_cons_succ]
          generalize (u3.alloc (.cells #[.int .i64 0, .int .i64 0, .int .i64 0, .int .i64 0] 24)) = u4 at hHeld HC HI ⊢
          generalize u3.heap.size = cb at HC hxb hnb hwb ⊢
          refine wpAnyH_ready (rs := [15]) (by kernel_rfl) (by simp) ?_
          refine AllReadyH.cons (o := { dst := none, op := Op.store 24 (Operand.tmp 7) (Operand.tmp 53), type := 0, pos := "stamp.go:115", after := #[{ on := 14, ground := Ground.data }, { on := 13, ground := Ground.data }, { on := 13, ground := Ground.chain }, { on := 0, ground := Ground.phase }, { on := 1, ground := Ground.phase }, { on := 2, ground := Ground.phase }, { on := 3, ground := Ground.phase }, { on := 4, ground := Ground.phase }, { on := 5, ground := Ground.phase }, { on := 6, ground := Ground.phase }, { on := 7, ground := Ground.phase }, { on := 8, ground := Ground.phase }, { on := 9, ground := Ground.phase }, { on := 10, ground := Ground.phase }, { on := 11, ground := Ground.phase }, { on := 12, ground := Ground.phase }, { on := 13, ground := Ground.phase }, { on := 14, ground := Ground.phase }], guard := none }) rfl (fun K hK => ?_) AllReadyH.nil
          have z0 : u4.cell? ⟨cb, 0, none⟩ = some (.int .i64 0) := rowAt_cell HC.out 0
          have z1 : u4.cell? ⟨cb, 1, none⟩ = some (.int .i64 0) := rowAt_cell HC.out 1
          have z2 : u4.cell? ⟨cb, 2, none⟩ = some (.int .i64 0) := rowAt_cell HC.out 2
          have z3 : u4.cell? ⟨cb, 3, none⟩ = some (.int .i64 0) := rowAt_cell HC.out 3
          have f0 : u4.frozen? ⟨cb, 0, none⟩ = false := rowAt_frz HC.out 0
          have f1 : u4.frozen? ⟨cb, 1, none⟩ = false := rowAt_frz HC.out 1
          have f2 : u4.frozen? ⟨cb, 2, none⟩ = false := rowAt_frz HC.out 2
          have f3 : u4.frozen? ⟨cb, 3, none⟩ = false := rowAt_frz HC.out 3
          go_simp
          have HG : Hid (u4.grownBy ((((u4.setCell ⟨cb, 0, none⟩ (.int .i64 1)).setCell ⟨cb, 1, none⟩ (.int .i64 1)).setCell ⟨cb, 2, none⟩ (.int .i64 0)).setCell ⟨cb, 3, none⟩ (.int .i64 0)) (some cb)) := Lib.hid ((((grown_set _ ⟨cb, 0, none⟩ _).trans (grown_set _ ⟨cb, 1, none⟩ _)).trans (grown_set _ ⟨cb, 2, none⟩ _)).trans (grown_set _ ⟨cb, 3, none⟩ _))
          replace HC : Hid (rowAt ((((u4.setCell ⟨cb, 0, none⟩ (.int .i64 1)).setCell ⟨cb, 1, none⟩ (.int .i64 1)).setCell ⟨cb, 2, none⟩ (.int .i64 0)).setCell ⟨cb, 3, none⟩ (.int .i64 0)) cb = some #[.int .i64 1, .int .i64 1, .int .i64 0, .int .i64 0]) := Lib.hid (rowAt_set (rowAt_set (rowAt_set (rowAt_set HC.out 0 _) 1 _) 2 _) 3 _)
          replace HI := Lib.hid (HI.out.far HG.out HL.out HKl.out hwb hxb hnb HG.out.size)
          refine hK.out _ _ ⟨rowAt_cell HI.out.ex 0, rowAt_cell HI.out.ex 1, rowAt_cell HI.out.ex 2, rowAt_cell HI.out.ex 3, rowAt_cell HI.out.ex 4, rowAt_cell HI.out.ex 5, rowAt_cell HI.out.ex 6, rowAt_cell HI.out.ex 7, rowAt_cell HI.out.ex 8, rowAt_cell HI.out.en 0, rowAt_cell HI.out.en 1, rowAt_cell HI.out.en 2, rowAt_cell HI.out.en 3, rowAt_cell HI.out.kn.st 1, rowAt_cell HI.out.kn.yy 1⟩ (fun hHeld => ?_)
          clear hK K
          try simp only [Act.put, List.setIfInBounds_toArray, List.set_cons_zero, List.set_cons_succ]
          refine wpAnyH_done (by kernel_rfl) ?_ _
          clear hHeld
          go_wp2_with fail
          go_meet
          case rel => exact ⟨⟨cb, rfl, HC.out, hwb, by omega⟩, HI.out.kn, HI.out.ka, HI.out.ex, HI.out.bl⟩
        · go_simp
          have HC : Hid (rowAt (u2.alloc (.cells #[.int .i64 0, .int .i64 0, .int .i64 0, .int .i64 0] 24)) u2.heap.size = some #[.int .i64 0, .int .i64 0, .int .i64 0, .int .i64 0]) := Lib.hid (rowAt_new _ _ _)
          have hxb : x < u2.heap.size := rowAt_lt HI.out.ex
          have hnb : nb < u2.heap.size := rowAt_lt HI.out.en
          have hwb : w.heap.size ≤ u2.heap.size := HI.out.bl.size
          replace HI := Lib.hid (HI.out.past ((Below.refl u2.heap.size u2).alloc (Nat.le_refl _) (.cells #[.int .i64 0, .int .i64 0, .int .i64 0, .int .i64 0] 24)) rfl rfl rfl rfl)
          refine hK.out _ _ ⟨rowAt_cell HI.out.ex 0, rowAt_cell HI.out.ex 1, rowAt_cell HI.out.ex 2, rowAt_cell HI.out.ex 3, rowAt_cell HI.out.ex 4, rowAt_cell HI.out.ex 5, rowAt_cell HI.out.ex 6, rowAt_cell HI.out.ex 7, rowAt_cell HI.out.ex 8, rowAt_cell HI.out.en 0, rowAt_cell HI.out.en 1, rowAt_cell HI.out.en 2, rowAt_cell HI.out.en 3, rowAt_cell HI.out.kn.st 1, rowAt_cell HI.out.kn.yy 1⟩ (fun hHeld => ?_)
          clear hK K
          try simp only [Act.put, List.setIfInBounds_toArray, List.set_cons_zero, List.set_cons_succ]
          generalize (u2.alloc (.cells #[.int .i64 0, .int .i64 0, .int .i64 0, .int .i64 0] 24)) = u6 at hHeld HC HI ⊢
          generalize u2.heap.size = cb at HC hxb hnb hwb ⊢
          refine wpAnyH_ready (rs := [13]) (by kernel_rfl) (by simp) ?_
          refine AllReadyH.cons (o := { dst := some 53, op := Op.call { callee := Callee.value (Operand.func 10), args := #[Operand.tmp 51, Operand.tmp 52], argTypes := #[24, 3] }, type := 24, pos := "stamp.go:115", after := #[{ on := 11, ground := Ground.data }, { on := 12, ground := Ground.data }, { on := 11, ground := Ground.chain }], guard := none }) rfl (fun K hK => ?_) AllReadyH.nil
          go_simp
          go_at_call 10
          refine (tick_c 1 0 0 0 1 _).mono ?_
          rintro e u7 ⟨rfl, hb⟩
          replace HI := Lib.hid (HI.out.past hb rfl rfl rfl rfl)
          replace HC := Lib.hid (rowAt_below HC.out hb rfl)
          rw [show tkV 1 0 0 0 1 = ck 1 1 0 0 from by kernel_rfl]
          unfold ck
          clear hb
          refine hK.out _ _ ⟨rowAt_cell HI.out.ex 0, rowAt_cell HI.out.ex 1, rowAt_cell HI.out.ex 2, rowAt_cell HI.out.ex 3, rowAt_cell HI.out.ex 4, rowAt_cell HI.out.ex 5, rowAt_cell HI.out.ex 6, rowAt_cell HI.out.ex 7, rowAt_cell HI.out.ex 8, rowAt_cell HI.out.en 0, rowAt_cell HI.out.en 1, rowAt_cell HI.out.en 2, rowAt_cell HI.out.en 3, rowAt_cell HI.out.kn.st 1, rowAt_cell HI.out.kn.yy 1⟩ (fun hHeld => ?_)
          clear hK K
          try simp only [Act.put, List.setIfInBounds_toArray, List.set_cons_zero, List.set_cons_succ]
          refine wpAnyH_ready (rs := [15]) (by kernel_rfl) (by simp) ?_
          refine AllReadyH.cons (o := { dst := none, op := Op.store 24 (Operand.tmp 7) (Operand.tmp 53), type := 0, pos := "stamp.go:115", after := #[{ on := 14, ground := Ground.data }, { on := 13, ground := Ground.data }, { on := 13, ground := Ground.chain }, { on := 0, ground := Ground.phase }, { on := 1, ground := Ground.phase }, { on := 2, ground := Ground.phase }, { on := 3, ground := Ground.phase }, { on := 4, ground := Ground.phase }, { on := 5, ground := Ground.phase }, { on := 6, ground := Ground.phase }, { on := 7, ground := Ground.phase }, { on := 8, ground := Ground.phase }, { on := 9, ground := Ground.phase }, { on := 10, ground := Ground.phase }, { on := 11, ground := Ground.phase }, { on := 12, ground := Ground.phase }, { on := 13, ground := Ground.phase }, { on := 14, ground := Ground.phase }], guard := none }) rfl (fun K hK => ?_) AllReadyH.nil
          have z0 : u7.cell? ⟨cb, 0, none⟩ = some (.int .i64 0) := rowAt_cell HC.out 0
          have z1 : u7.cell? ⟨cb, 1, none⟩ = some (.int .i64 0) := rowAt_cell HC.out 1
          have z2 : u7.cell? ⟨cb, 2, none⟩ = some (.int .i64 0) := rowAt_cell HC.out 2
          have z3 : u7.cell? ⟨cb, 3, none⟩ = some (.int .i64 0) := rowAt_cell HC.out 3
          have f0 : u7.frozen? ⟨cb, 0, none⟩ = false := rowAt_frz HC.out 0
          have f1 : u7.frozen? ⟨cb, 1, none⟩ = false := rowAt_frz HC.out 1
          have f2 : u7.frozen? ⟨cb, 2, none⟩ = false := rowAt_frz HC.out 2
          have f3 : u7.frozen? ⟨cb, 3, none⟩ = false := rowAt_frz HC.out 3
          go_simp
          have HG : Hid (u7.grownBy ((((u7.setCell ⟨cb, 0, none⟩ (.int .i64 1)).setCell ⟨cb, 1, none⟩ (.int .i64 1)).setCell ⟨cb, 2, none⟩ (.int .i64 0)).setCell ⟨cb, 3, none⟩ (.int .i64 0)) (some cb)) := Lib.hid ((((grown_set _ ⟨cb, 0, none⟩ _).trans (grown_set _ ⟨cb, 1, none⟩ _)).trans (grown_set _ ⟨cb, 2, none⟩ _)).trans (grown_set _ ⟨cb, 3, none⟩ _))
          replace HC : Hid (rowAt ((((u7.setCell ⟨cb, 0, none⟩ (.int .i64 1)).setCell ⟨cb, 1, none⟩ (.int .i64 1)).setCell ⟨cb, 2, none⟩ (.int .i64 0)).setCell ⟨cb, 3, none⟩ (.int .i64 0)) cb = some #[.int .i64 1, .int .i64 1, .int .i64 0, .int .i64 0]) := Lib.hid (rowAt_set (rowAt_set (rowAt_set (rowAt_set HC.out 0 _) 1 _) 2 _) 3 _)
          replace HI := Lib.hid (HI.out.far HG.out HL.out HKl.out hwb hxb hnb HG.out.size)
          refine hK.out _ _ ⟨rowAt_cell HI.out.ex 0, rowAt_cell HI.out.ex 1, rowAt_cell HI.out.ex 2, rowAt_cell HI.out.ex 3, rowAt_cell HI.out.ex 4, rowAt_cell HI.out.ex 5, rowAt_cell HI.out.ex 6, rowAt_cell HI.out.ex 7, rowAt_cell HI.out.ex 8, rowAt_cell HI.out.en 0, rowAt_cell HI.out.en 1, rowAt_cell HI.out.en 2, rowAt_cell HI.out.en 3, rowAt_cell HI.out.kn.st 1, rowAt_cell HI.out.kn.yy 1⟩ (fun hHeld => ?_)
          clear hK K
          try simp only [Act.put, List.setIfInBounds_toArray, List.set_cons_zero, List.set_cons_succ]
          refine wpAnyH_done (by kernel_rfl) ?_ _
          clear hHeld
          go_wp2_with fail
          go_meet
          case rel => exact ⟨⟨cb, rfl, HC.out, hwb, by omega⟩, HI.out.kn, HI.out.ka, HI.out.ex, HI.out.bl⟩
      · go_simp
        have HC : Hid (rowAt (u1.alloc (.cells #[.int .i64 0, .int .i64 0, .int .i64 0, .int .i64 0] 24)) u1.heap.size = some #[.int .i64 0, .int .i64 0, .int .i64 0, .int .i64 0]) := Lib.hid (rowAt_new _ _ _)
        have hxb : x < u1.heap.size := rowAt_lt HI.out.ex
        have hnb : nb < u1.heap.size := rowAt_lt HI.out.en
        have hwb : w.heap.size ≤ u1.heap.size := HI.out.bl.size
        replace HI := Lib.hid (HI.out.past ((Below.refl u1.heap.size u1).alloc (Nat.le_refl _) (.cells #[.int .i64 0, .int .i64 0, .int .i64 0, .int .i64 0] 24)) rfl rfl rfl rfl)
        refine hK.out _ _ ⟨rowAt_cell HI.out.ex 0, rowAt_cell HI.out.ex 1, rowAt_cell HI.out.ex 2, rowAt_cell HI.out.ex 3, rowAt_cell HI.out.ex 4, rowAt_cell HI.out.ex 5, rowAt_cell HI.out.ex 6, rowAt_cell HI.out.ex 7, rowAt_cell HI.out.ex 8, rowAt_cell HI.out.en 0, rowAt_cell HI.out.en 1, rowAt_cell HI.out.en 2, rowAt_cell HI.out.en 3, rowAt_cell HI.out.kn.st 1, rowAt_cell HI.out.kn.yy 1⟩ (fun hHeld => ?_)
        clear hK K
        try simp only [Act.put, List.setIfInBounds_toArray, List.set_cons_zero, List.set_cons_succ]
        generalize (u1.alloc (.cells #[.int .i64 0, .int .i64 0, .int .i64 0, .int .i64 0] 24)) = u9 at hHeld HC HI ⊢
        generalize u1.heap.size = cb at HC hxb hnb hwb ⊢
        refine wpAnyH_ready (rs := [11]) (by kernel_rfl) (by simp) ?_
        refine AllReadyH.cons (o := { dst := some 51, op := Op.call { callee := Callee.value (Operand.func 8), args := #[Operand.tmp 40, Operand.tmp 50], argTypes := #[24, 24] }, type := 24, pos := "stamp.go:115", after := #[{ on := 0, ground := Ground.data }, { on := 10, ground := Ground.data }, { on := 10, ground := Ground.chain }], guard := none }) rfl (fun K hK => ?_) AllReadyH.nil
        go_simp
        go_at_call 8
        refine (join_c 1 0 0 0 0 0 0 0 _).mono ?_
        rintro e u10 ⟨rfl, hb⟩
        replace HI := Lib.hid (HI.out.past hb rfl rfl rfl rfl)
        replace HC := Lib.hid (rowAt_below HC.out hb rfl)
        rw [show ck (max 1 0) (max 0 0) (max 0 0) (max 0 0) = ck 1 0 0 0 from by kernel_rfl]
        unfold ck
        clear hb
        refine hK.out _ _ ⟨rowAt_cell HI.out.ex 0, rowAt_cell HI.out.ex 1, rowAt_cell HI.out.ex 2, rowAt_cell HI.out.ex 3, rowAt_cell HI.out.ex 4, rowAt_cell HI.out.ex 5, rowAt_cell HI.out.ex 6, rowAt_cell HI.out.ex 7, rowAt_cell HI.out.ex 8, rowAt_cell HI.out.en 0, rowAt_cell HI.out.en 1, rowAt_cell HI.out.en 2, rowAt_cell HI.out.en 3, rowAt_cell HI.out.kn.st 1, rowAt_cell HI.out.kn.yy 1⟩ (fun hHeld => ?_)
        clear hK K
        try simp only [Act.put, List.setIfInBounds_toArray, List.set_cons_zero, List.set_cons_succ]
        refine wpAnyH_ready (rs := [13]) (by kernel_rfl) (by simp) ?_
        refine AllReadyH.cons (o := { dst := some 53, op := Op.call { callee := Callee.value (Operand.func 10), args := #[Operand.tmp 51, Operand.tmp 52], argTypes := #[24, 3] }, type := 24, pos := "stamp.go:115", after := #[{ on := 11, ground := Ground.data }, { on := 12, ground := Ground.data }, { on := 11, ground := Ground.chain }], guard := none }) rfl (fun K hK => ?_) AllReadyH.nil
        go_simp
        go_at_call 10
        refine (tick_c 1 0 0 0 1 _).mono ?_
        rintro e u11 ⟨rfl, hb⟩
        replace HI := Lib.hid (HI.out.past hb rfl rfl rfl rfl)
        replace HC := Lib.hid (rowAt_below HC.out hb rfl)
        rw [show tkV 1 0 0 0 1 = ck 1 1 0 0 from by kernel_rfl]
        unfold ck
        clear hb
        refine hK.out _ _ ⟨rowAt_cell HI.out.ex 0, rowAt_cell HI.out.ex 1, rowAt_cell HI.out.ex 2, rowAt_cell HI.out.ex 3, rowAt_cell HI.out.ex 4, rowAt_cell HI.out.ex 5, rowAt_cell HI.out.ex 6, rowAt_cell HI.out.ex 7, rowAt_cell HI.out.ex 8, rowAt_cell HI.out.en 0, rowAt_cell HI.out.en 1, rowAt_cell HI.out.en 2, rowAt_cell HI.out.en 3, rowAt_cell HI.out.kn.st 1, rowAt_cell HI.out.kn.yy 1⟩ (fun hHeld => ?_)
        clear hK K
        try simp only [Act.put, List.setIfInBounds_toArray, List.set_cons_zero, List.set_cons_succ]
        refine wpAnyH_ready (rs := [15]) (by kernel_rfl) (by simp) ?_
        refine AllReadyH.cons (o := { dst := none, op := Op.store 24 (Operand.tmp 7) (Operand.tmp 53), type := 0, pos := "stamp.go:115", after := #[{ on := 14, ground := Ground.data }, { on := 13, ground := Ground.data }, { on := 13, ground := Ground.chain }, { on := 0, ground := Ground.phase }, { on := 1, ground := Ground.phase }, { on := 2, ground := Ground.phase }, { on := 3, ground := Ground.phase }, { on := 4, ground := Ground.phase }, { on := 5, ground := Ground.phase }, { on := 6, ground := Ground.phase }, { on := 7, ground := Ground.phase }, { on := 8, ground := Ground.phase }, { on := 9, ground := Ground.phase }, { on := 10, ground := Ground.phase }, { on := 11, ground := Ground.phase }, { on := 12, ground := Ground.phase }, { on := 13, ground := Ground.phase }, { on := 14, ground := Ground.phase }], guard := none }) rfl (fun K hK => ?_) AllReadyH.nil
        have z0 : u11.cell? ⟨cb, 0, none⟩ = some (.int .i64 0) := rowAt_cell HC.out 0
        have z1 : u11.cell? ⟨cb, 1, none⟩ = some (.int .i64 0) := rowAt_cell HC.out 1
        have z2 : u11.cell? ⟨cb, 2, none⟩ = some (.int .i64 0) := rowAt_cell HC.out 2
        have z3 : u11.cell? ⟨cb, 3, none⟩ = some (.int .i64 0) := rowAt_cell HC.out 3
        have f0 : u11.frozen? ⟨cb, 0, none⟩ = false := rowAt_frz HC.out 0
        have f1 : u11.frozen? ⟨cb, 1, none⟩ = false := rowAt_frz HC.out 1
        have f2 : u11.frozen? ⟨cb, 2, none⟩ = false := rowAt_frz HC.out 2
        have f3 : u11.frozen? ⟨cb, 3, none⟩ = false := rowAt_frz HC.out 3
        go_simp
        have HG : Hid (u11.grownBy ((((u11.setCell ⟨cb, 0, none⟩ (.int .i64 1)).setCell ⟨cb, 1, none⟩ (.int .i64 1)).setCell ⟨cb, 2, none⟩ (.int .i64 0)).setCell ⟨cb, 3, none⟩ (.int .i64 0)) (some cb)) := Lib.hid ((((grown_set _ ⟨cb, 0, none⟩ _).trans (grown_set _ ⟨cb, 1, none⟩ _)).trans (grown_set _ ⟨cb, 2, none⟩ _)).trans (grown_set _ ⟨cb, 3, none⟩ _))
        replace HC : Hid (rowAt ((((u11.setCell ⟨cb, 0, none⟩ (.int .i64 1)).setCell ⟨cb, 1, none⟩ (.int .i64 1)).setCell ⟨cb, 2, none⟩ (.int .i64 0)).setCell ⟨cb, 3, none⟩ (.int .i64 0)) cb = some #[.int .i64 1, .int .i64 1, .int .i64 0, .int .i64 0]) := Lib.hid (rowAt_set (rowAt_set (rowAt_set (rowAt_set HC.out 0 _) 1 _) 2 _) 3 _)
        replace HI := Lib.hid (HI.out.far HG.out HL.out HKl.out hwb hxb hnb HG.out.size)
        refine hK.out _ _ ⟨rowAt_cell HI.out.ex 0, rowAt_cell HI.out.ex 1, rowAt_cell HI.out.ex 2, rowAt_cell HI.out.ex 3, rowAt_cell HI.out.ex 4, rowAt_cell HI.out.ex 5, rowAt_cell HI.out.ex 6, rowAt_cell HI.out.ex 7, rowAt_cell HI.out.ex 8, rowAt_cell HI.out.en 0, rowAt_cell HI.out.en 1, rowAt_cell HI.out.en 2, rowAt_cell HI.out.en 3, rowAt_cell HI.out.kn.st 1, rowAt_cell HI.out.kn.yy 1⟩ (fun hHeld => ?_)
        clear hK K
        try simp only [Act.put, List.setIfInBounds_toArray, List.set_cons_zero, List.set_cons_succ]
        refine wpAnyH_done (by kernel_rfl) ?_ _
        clear hHeld
        go_wp2_with fail
        go_meet
        case rel => exact ⟨⟨cb, rfl, HC.out, hwb, by omega⟩, HI.out.kn, HI.out.ka, HI.out.ex, HI.out.bl⟩
    · go_simp
      have HC : Hid (rowAt (u.alloc (.cells #[.int .i64 0, .int .i64 0, .int .i64 0, .int .i64 0] 24)) u.heap.size = some #[.int .i64 0, .int .i64 0, .int .i64 0, .int .i64 0]) := Lib.hid (rowAt_new _ _ _)
      have hxb : x < u.heap.size := rowAt_lt HI.out.ex
      have hnb : nb < u.heap.size := rowAt_lt HI.out.en
      have hwb : w.heap.size ≤ u.heap.size := HI.out.bl.size
      replace HI := Lib.hid (HI.out.past ((Below.refl u.heap.size u).alloc (Nat.le_refl _) (.cells #[.int .i64 0, .int .i64 0, .int .i64 0, .int .i64 0] 24)) rfl rfl rfl rfl)
      refine hK.out _ _ ⟨rowAt_cell HI.out.ex 0, rowAt_cell HI.out.ex 1, rowAt_cell HI.out.ex 2, rowAt_cell HI.out.ex 3, rowAt_cell HI.out.ex 4, rowAt_cell HI.out.ex 5, rowAt_cell HI.out.ex 6, rowAt_cell HI.out.ex 7, rowAt_cell HI.out.ex 8, rowAt_cell HI.out.en 0, rowAt_cell HI.out.en 1, rowAt_cell HI.out.en 2, rowAt_cell HI.out.en 3, rowAt_cell HI.out.kn.st 1, rowAt_cell HI.out.kn.yy 1⟩ (fun hHeld => ?_)
      clear hK K
      try simp only [Act.put, List.setIfInBounds_toArray, List.set_cons_zero, List.set_cons_succ]
      generalize (u.alloc (.cells #[.int .i64 0, .int .i64 0, .int .i64 0, .int .i64 0] 24)) = u13 at hHeld HC HI ⊢
      generalize u.heap.size = cb at HC hxb hnb hwb ⊢
      refine wpAnyH_ready (rs := [10]) (by kernel_rfl) (by simp) ?_
      refine AllReadyH.cons (o := { dst := some 50, op := Op.call { callee := Callee.value (Operand.func 34), args := #[Operand.tmp 41, Operand.tmp 42, Operand.tmp 49], argTypes := #[50, 44, 4] }, type := 24, pos := "stamp.go:115", after := #[{ on := 1, ground := Ground.data }, { on := 2, ground := Ground.data }, { on := 9, ground := Ground.data }], guard := none }) rfl (fun K hK => ?_) AllReadyH.nil
      go_simp
      go_at_call 34
      refine (joined_1 S _ _).mono ?_
      rintro e u14 ⟨rfl, hb⟩
      replace HI := Lib.hid (HI.out.past hb rfl rfl rfl rfl)
      replace HC := Lib.hid (rowAt_below HC.out hb rfl)
      unfold ck
      clear hb
      refine hK.out _ _ ⟨rowAt_cell HI.out.ex 0, rowAt_cell HI.out.ex 1, rowAt_cell HI.out.ex 2, rowAt_cell HI.out.ex 3, rowAt_cell HI.out.ex 4, rowAt_cell HI.out.ex 5, rowAt_cell HI.out.ex 6, rowAt_cell HI.out.ex 7, rowAt_cell HI.out.ex 8, rowAt_cell HI.out.en 0, rowAt_cell HI.out.en 1, rowAt_cell HI.out.en 2, rowAt_cell HI.out.en 3, rowAt_cell HI.out.kn.st 1, rowAt_cell HI.out.kn.yy 1⟩ (fun hHeld => ?_)
      clear hK K
      try simp only [Act.put, List.setIfInBounds_toArray, List.set_cons_zero, List.set_cons_succ]
      refine wpAnyH_ready (rs := [11]) (by kernel_rfl) (by simp) ?_
      refine AllReadyH.cons (o := { dst := some 51, op := Op.call { callee := Callee.value (Operand.func 8), args := #[Operand.tmp 40, Operand.tmp 50], argTypes := #[24, 24] }, type := 24, pos := "stamp.go:115", after := #[{ on := 0, ground := Ground.data }, { on := 10, ground := Ground.data }, { on := 10, ground := Ground.chain }], guard := none }) rfl (fun K hK => ?_) AllReadyH.nil
      go_simp
      go_at_call 8
      refine (join_c 1 0 0 0 0 0 0 0 _).mono ?_
      rintro e u15 ⟨rfl, hb⟩
      replace HI := Lib.hid (HI.out.past hb rfl rfl rfl rfl)
      replace HC := Lib.hid (rowAt_below HC.out hb rfl)
      rw [show ck (max 1 0) (max 0 0) (max 0 0) (max 0 0) = ck 1 0 0 0 from by kernel_rfl]
      unfold ck
      clear hb
      refine hK.out _ _ ⟨rowAt_cell HI.out.ex 0, rowAt_cell HI.out.ex 1, rowAt_cell HI.out.ex 2, rowAt_cell HI.out.ex 3, rowAt_cell HI.out.ex 4, rowAt_cell HI.out.ex 5, rowAt_cell HI.out.ex 6, rowAt_cell HI.out.ex 7, rowAt_cell HI.out.ex 8, rowAt_cell HI.out.en 0, rowAt_cell HI.out.en 1, rowAt_cell HI.out.en 2, rowAt_cell HI.out.en 3, rowAt_cell HI.out.kn.st 1, rowAt_cell HI.out.kn.yy 1⟩ (fun hHeld => ?_)
      clear hK K
      try simp only [Act.put, List.setIfInBounds_toArray, List.set_cons_zero, List.set_cons_succ]
      refine wpAnyH_ready (rs := [13]) (by kernel_rfl) (by simp) ?_
      refine AllReadyH.cons (o := { dst := some 53, op := Op.call { callee := Callee.value (Operand.func 10), args := #[Operand.tmp 51, Operand.tmp 52], argTypes := #[24, 3] }, type := 24, pos := "stamp.go:115", after := #[{ on := 11, ground := Ground.data }, { on := 12, ground := Ground.data }, { on := 11, ground := Ground.chain }], guard := none }) rfl (fun K hK => ?_) AllReadyH.nil
      go_simp
      go_at_call 10
      refine (tick_c 1 0 0 0 1 _).mono ?_
      rintro e u16 ⟨rfl, hb⟩
      replace HI := Lib.hid (HI.out.past hb rfl rfl rfl rfl)
      replace HC := Lib.hid (rowAt_below HC.out hb rfl)
      rw [show tkV 1 0 0 0 1 = ck 1 1 0 0 from by kernel_rfl]
      unfold ck
      clear hb
      refine hK.out _ _ ⟨rowAt_cell HI.out.ex 0, rowAt_cell HI.out.ex 1, rowAt_cell HI.out.ex 2, rowAt_cell HI.out.ex 3, rowAt_cell HI.out.ex 4, rowAt_cell HI.out.ex 5, rowAt_cell HI.out.ex 6, rowAt_cell HI.out.ex 7, rowAt_cell HI.out.ex 8, rowAt_cell HI.out.en 0, rowAt_cell HI.out.en 1, rowAt_cell HI.out.en 2, rowAt_cell HI.out.en 3, rowAt_cell HI.out.kn.st 1, rowAt_cell HI.out.kn.yy 1⟩ (fun hHeld => ?_)
      clear hK K
      try simp only [Act.put, List.setIfInBounds_toArray, List.set_cons_zero, List.set_cons_succ]
      refine wpAnyH_ready (rs := [15]) (by kernel_rfl) (by simp) ?_
      refine AllReadyH.cons (o := { dst := none, op := Op.store 24 (Operand.tmp 7) (Operand.tmp 53), type := 0, pos := "stamp.go:115", after := #[{ on := 14, ground := Ground.data }, { on := 13, ground := Ground.data }, { on := 13, ground := Ground.chain }, { on := 0, ground := Ground.phase }, { on := 1, ground := Ground.phase }, { on := 2, ground := Ground.phase }, { on := 3, ground := Ground.phase }, { on := 4, ground := Ground.phase }, { on := 5, ground := Ground.phase }, { on := 6, ground := Ground.phase }, { on := 7, ground := Ground.phase }, { on := 8, ground := Ground.phase }, { on := 9, ground := Ground.phase }, { on := 10, ground := Ground.phase }, { on := 11, ground := Ground.phase }, { on := 12, ground := Ground.phase }, { on := 13, ground := Ground.phase }, { on := 14, ground := Ground.phase }], guard := none }) rfl (fun K hK => ?_) AllReadyH.nil
      have z0 : u16.cell? ⟨cb, 0, none⟩ = some (.int .i64 0) := rowAt_cell HC.out 0
      have z1 : u16.cell? ⟨cb, 1, none⟩ = some (.int .i64 0) := rowAt_cell HC.out 1
      have z2 : u16.cell? ⟨cb, 2, none⟩ = some (.int .i64 0) := rowAt_cell HC.out 2
      have z3 : u16.cell? ⟨cb, 3, none⟩ = some (.int .i64 0) := rowAt_cell HC.out 3
      have f0 : u16.frozen? ⟨cb, 0, none⟩ = false := rowAt_frz HC.out 0
      have f1 : u16.frozen? ⟨cb, 1, none⟩ = false := rowAt_frz HC.out 1
      have f2 : u16.frozen? ⟨cb, 2, none⟩ = false := rowAt_frz HC.out 2
      have f3 : u16.frozen? ⟨cb, 3, none⟩ = false := rowAt_frz HC.out 3
      go_simp
      have HG : Hid (u16.grownBy ((((u16.setCell ⟨cb, 0, none⟩ (.int .i64 1)).setCell ⟨cb, 1, none⟩ (.int .i64 1)).setCell ⟨cb, 2, none⟩ (.int .i64 0)).setCell ⟨cb, 3, none⟩ (.int .i64 0)) (some cb)) := Lib.hid ((((grown_set _ ⟨cb, 0, none⟩ _).trans (grown_set _ ⟨cb, 1, none⟩ _)).trans (grown_set _ ⟨cb, 2, none⟩ _)).trans (grown_set _ ⟨cb, 3, none⟩ _))
      replace HC : Hid (rowAt ((((u16.setCell ⟨cb, 0, none⟩ (.int .i64 1)).setCell ⟨cb, 1, none⟩ (.int .i64 1)).setCell ⟨cb, 2, none⟩ (.int .i64 0)).setCell ⟨cb, 3, none⟩ (.int .i64 0)) cb = some #[.int .i64 1, .int .i64 1, .int .i64 0, .int .i64 0]) := Lib.hid (rowAt_set (rowAt_set (rowAt_set (rowAt_set HC.out 0 _) 1 _) 2 _) 3 _)
      replace HI := Lib.hid (HI.out.far HG.out HL.out HKl.out hwb hxb hnb HG.out.size)
      refine hK.out _ _ ⟨rowAt_cell HI.out.ex 0, rowAt_cell HI.out.ex 1, rowAt_cell HI.out.ex 2, rowAt_cell HI.out.ex 3, rowAt_cell HI.out.ex 4, rowAt_cell HI.out.ex 5, rowAt_cell HI.out.ex 6, rowAt_cell HI.out.ex 7, rowAt_cell HI.out.ex 8, rowAt_cell HI.out.en 0, rowAt_cell HI.out.en 1, rowAt_cell HI.out.en 2, rowAt_cell HI.out.en 3, rowAt_cell HI.out.kn.st 1, rowAt_cell HI.out.kn.yy 1⟩ (fun hHeld => ?_)
      clear hK K
      try simp only [Act.put, List.setIfInBounds_toArray, List.set_cons_zero, List.set_cons_succ]
      refine wpAnyH_done (by kernel_rfl) ?_ _
      clear hHeld
      go_wp2_with fail
      go_meet
      case rel => exact ⟨⟨cb, rfl, HC.out, hwb, by omega⟩, HI.out.kn, HI.out.ka, HI.out.ex, HI.out.bl⟩
  case rest =>
    obtain ⟨⟨cb, hs, hC, hwb, hbx⟩, hkn, hka, hex, hbl⟩ := hcut
    subst hs
    have hx : x = w.heap.size := HX.out
    have HP : Hid (Pt E Y R S K g0 p0 g1 p1 x cb (SA2 E Y R K m1 m2) #[.int .i64 1, .int .i64 0, .int .i64 0, .int .i64 0, .int .i64 0, .int .i64 0, .int .i64 0, .int .i64 0, .int .i64 2, .int .i64 0, .int .i64 0, .int .i64 0] #[.int .i64 1, .int .i64 7, .int .i64 0, .int .i64 0, .int .i64 0, .bool false, .int .i64 0, .int .i64 0, .int .i64 2] #[.int .i64 1, .int .i64 1, .int .i64 0, .int .i64 0] w wc) := Lib.hid ⟨hkn, hka, hex, hC, fun B _ _ h => hbl.mono h, by have h1 := HL.out.2.2.2.1; have h2 := HKl.out; exact ⟨by omega, by omega, by omega, by omega, hKS⟩, hls, hlk⟩
    clear hkn hka hex hbl hC hwb hbx HI HL HKl HX hx
    go_wp2
    refine wp_region_held_drew (S := (fun w' => w'.cell? ⟨cb, 0, none⟩ = some (.int .i64 1) ∧ w'.cell? ⟨cb, 1, none⟩ = some (.int .i64 1) ∧ w'.cell? ⟨cb, 2, none⟩ = some (.int .i64 0) ∧ w'.cell? ⟨cb, 3, none⟩ = some (.int .i64 0) ∧ w'.cell? ⟨S, 41, none⟩ = some (.slice (some ⟨K, 0, none⟩) 3 3))) (by kernel_rfl) ⟨rowAt_cell HP.out.ec 0, rowAt_cell HP.out.ec 1, rowAt_cell HP.out.ec 2, rowAt_cell HP.out.ec 3, rowAt_cell HP.out.kn.st 41⟩ (fun hHeld => ?_)
    replace HP := Lib.hid HP.out.same
    generalize wc.drew = v at hHeld HP ⊢
    refine wpAnyH_take (i := 0) (oi := { dst := some 54, op := Op.move (Operand.tmp 0), type := 50, pos := "stamp.go:116", after := #[], guard := none }) (v := ?_) rfl (by kernel_rfl) (by kernel_rfl) (by kernel_rfl) (fun _ _ _ h => h) (Or.inl ⟨by rfl, ?_⟩) (by assumption) ?_
    rotate_left
    · (intro w9 hSw; (try dsimp only at hSw); go_split_ands; go_simp; with_reducible rfl)
    try simp only [Act.put, List.setIfInBounds_toArray, List.set_cons_zero, List.set_cons_succ]
    refine wpAnyH_take (i := 1) (oi := { dst := some 55, op := Op.move (Operand.tmp 5), type := 3, pos := "stamp.go:116", after := #[], guard := none }) (v := ?_) rfl (by kernel_rfl) (by kernel_rfl) (by kernel_rfl) (fun _ _ _ h => h) (Or.inl ⟨by rfl, ?_⟩) (by assumption) ?_
    rotate_left
    · (intro w9 hSw; (try dsimp only at hSw); go_split_ands; go_simp; with_reducible rfl)
    try simp only [Act.put, List.setIfInBounds_toArray, List.set_cons_zero, List.set_cons_succ]
    refine wpAnyH_take (i := 2) (oi := { dst := some 56, op := Op.move (Operand.tmp 0), type := 50, pos := "stamp.go:116", after := #[], guard := none }) (v := ?_) rfl (by kernel_rfl) (by kernel_rfl) (by kernel_rfl) (fun _ _ _ h => h) (Or.inl ⟨by rfl, ?_⟩) (by assumption) ?_
    rotate_left
    · (intro w9 hSw; (try dsimp only at hSw); go_split_ands; go_simp; with_reducible rfl)
    try simp only [Act.put, List.setIfInBounds_toArray, List.set_cons_zero, List.set_cons_succ]
    refine wpAnyH_take (i := 3) (oi := { dst := some 57, op := Op.nilCheck (Operand.tmp 56), type := 0, pos := "stamp.go:116", after := #[{ on := 2, ground := Ground.data }], guard := none }) (v := ?_) rfl (by kernel_rfl) (by kernel_rfl) (by kernel_rfl) (fun _ _ _ h => h) (Or.inl ⟨by rfl, ?_⟩) (by assumption) ?_
    rotate_left
    · (intro w9 hSw; (try dsimp only at hSw); go_split_ands; go_simp; with_reducible rfl)
    try simp only [Act.put, List.setIfInBounds_toArray, List.set_cons_zero, List.set_cons_succ]
    refine wpAnyH_take (i := 4) (oi := { dst := some 58, op := Op.fieldAddr 59 (Operand.tmp 57) 8, type := 0, pos := "stamp.go:116", after := #[{ on := 3, ground := Ground.data }], guard := none }) (v := ?_) rfl (by kernel_rfl) (by kernel_rfl) (by kernel_rfl) (fun _ _ _ h => h) (Or.inl ⟨by rfl, ?_⟩) (by assumption) ?_
    rotate_left
    · (intro w9 hSw; (try dsimp only at hSw); go_split_ands; go_simp; with_reducible rfl)
    try simp only [Act.put, List.setIfInBounds_toArray, List.set_cons_zero, List.set_cons_succ]
    refine wpAnyH_take (i := 5) (oi := { dst := some 59, op := Op.load 37 (Operand.tmp 58), type := 37, pos := "stamp.go:116", after := #[{ on := 4, ground := Ground.data }], guard := none }) (v := ?_) rfl (by kernel_rfl) (by kernel_rfl) (by kernel_rfl) (fun _ _ _ h => h) (Or.inl ⟨by rfl, ?_⟩) (by assumption) ?_
    rotate_left
    · (intro w9 hSw; (try dsimp only at hSw); go_split_ands; go_simp; with_reducible rfl)
    try simp only [Act.put, List.setIfInBounds_toArray, List.set_cons_zero, List.set_cons_succ]
    refine wpAnyH_take (i := 6) (oi := { dst := some 60, op := Op.move (Operand.tmp 1), type := 3, pos := "stamp.go:116", after := #[{ on := 12, ground := Ground.gcOnly Departure.lateStores }], guard := none }) (v := ?_) rfl (by kernel_rfl) (by kernel_rfl) (by kernel_rfl) (fun _ _ _ h => h) (Or.inl ⟨by rfl, ?_⟩) (by assumption) ?_
    rotate_left
    · (intro w9 hSw; (try dsimp only at hSw); go_split_ands; go_simp; with_reducible rfl)
    try simp only [Act.put, List.setIfInBounds_toArray, List.set_cons_zero, List.set_cons_succ]
    refine wpAnyH_take (i := 7) (oi := { dst := some 61, op := Op.load 24 (Operand.tmp 7), type := 24, pos := "stamp.go:116", after := #[], guard := none }) (v := ?_) rfl (by kernel_rfl) (by kernel_rfl) (by kernel_rfl) (fun _ _ _ h => h) (Or.inl ⟨by rfl, ?_⟩) (by assumption) ?_
    rotate_left
    · (intro w9 hSw; (try dsimp only at hSw); go_split_ands; go_simp; with_reducible rfl)
    try simp only [Act.put, List.setIfInBounds_toArray, List.set_cons_zero, List.set_cons_succ]
    refine wpAnyH_take (i := 8) (oi := { dst := some 62, op := Op.load 24 (Operand.tmp 7), type := 24, pos := "stamp.go:116", after := #[{ on := 12, ground := Ground.gcOnly Departure.lateStores }], guard := none }) (v := ?_) rfl (by kernel_rfl) (by kernel_rfl) (by kernel_rfl) (fun _ _ _ h => h) (Or.inl ⟨by rfl, ?_⟩) (by assumption) ?_
    rotate_left
    · (intro w9 hSw; (try dsimp only at hSw); go_split_ands; go_simp; with_reducible rfl)
    try simp only [Act.put, List.setIfInBounds_toArray, List.set_cons_zero, List.set_cons_succ]
    refine wpAnyH_take (i := 9) (oi := { dst := some 63, op := Op.nilCheck (Operand.tmp 54), type := 0, pos := "stamp.go:116", after := #[{ on := 0, ground := Ground.data }], guard := none }) (v := ?_) rfl (by kernel_rfl) (by kernel_rfl) (by kernel_rfl) (fun _ _ _ h => h) (Or.inl ⟨by rfl, ?_⟩) (by assumption) ?_
    rotate_left
    · (intro w9 hSw; (try dsimp only at hSw); go_split_ands; go_simp; with_reducible rfl)
    try simp only [Act.put, List.setIfInBounds_toArray, List.set_cons_zero, List.set_cons_succ]
    refine wpAnyH_take (i := 10) (oi := { dst := some 64, op := Op.fieldAddr 59 (Operand.tmp 63) 4, type := 0, pos := "stamp.go:116", after := #[{ on := 9, ground := Ground.data }], guard := none }) (v := ?_) rfl (by kernel_rfl) (by kernel_rfl) (by kernel_rfl) (fun _ _ _ h => h) (Or.inl ⟨by rfl, ?_⟩) (by assumption) ?_
    rotate_left
    · (intro w9 hSw; (try dsimp only at hSw); go_split_ands; go_simp; with_reducible rfl)
    try simp only [Act.put, List.setIfInBounds_toArray, List.set_cons_zero, List.set_cons_succ]
    refine wpAnyH_take (i := 11) (oi := { dst := some 65, op := Op.indexAddr 57 (Operand.tmp 64) (Operand.tmp 55), type := 0, pos := "stamp.go:116", after := #[{ on := 10, ground := Ground.data }, { on := 1, ground := Ground.data }, { on := 0, ground := Ground.phase }, { on := 1, ground := Ground.phase }, { on := 2, ground := Ground.textOnly Departure.lateStores }, { on := 3, ground := Ground.textOnly Departure.lateStoresUnsure }, { on := 4, ground := Ground.textOnly Departure.lateStoresUnsure }, { on := 5, ground := Ground.phase }, { on := 6, ground := Ground.textOnly Departure.lateStores }, { on := 7, ground := Ground.phase }, { on := 8, ground := Ground.textOnly Departure.lateStores }], guard := none }) (v := ?_) rfl (by kernel_rfl) (by kernel_rfl) (by kernel_rfl) (fun _ _ _ h => h) (Or.inl ⟨by rfl, ?_⟩) (by assumption) ?_
    rotate_left
    · (intro w9 hSw; (try dsimp only at hSw); go_split_ands; go_simp; with_reducible rfl)
    try simp only [Act.put, List.setIfInBounds_toArray, List.set_cons_zero, List.set_cons_succ]
    refine wpAnyH_ready (rs := [12]) (by kernel_rfl) (by simp) ?_
    refine AllReadyH.cons (o := { dst := none, op := Op.store 24 (Operand.tmp 65) (Operand.tmp 61), type := 0, pos := "stamp.go:116", after := #[{ on := 11, ground := Ground.data }, { on := 7, ground := Ground.data }, { on := 0, ground := Ground.phase }, { on := 1, ground := Ground.phase }, { on := 2, ground := Ground.textOnly Departure.lateStores }, { on := 3, ground := Ground.textOnly Departure.lateStoresUnsure }, { on := 4, ground := Ground.textOnly Departure.lateStoresUnsure }, { on := 5, ground := Ground.phase }, { on := 6, ground := Ground.textOnly Departure.lateStores }, { on := 7, ground := Ground.phase }, { on := 8, ground := Ground.textOnly Departure.lateStores }], guard := none }) rfl (fun K' hK => ?_) AllReadyH.nil
    have z0 : v.cell? ⟨S, 11, none⟩ = some (.int .i64 0) := rowAt_cell HP.out.kn.st 11
    have z1 : v.cell? ⟨S, 12, none⟩ = some (.int .i64 0) := rowAt_cell HP.out.kn.st 12
    have z2 : v.cell? ⟨S, 13, none⟩ = some (.int .i64 0) := rowAt_cell HP.out.kn.st 13
    have z3 : v.cell? ⟨S, 14, none⟩ = some (.int .i64 0) := rowAt_cell HP.out.kn.st 14
    have f0 : v.frozen? ⟨S, 11, none⟩ = false := rowAt_frz HP.out.kn.st 11
    have f1 : v.frozen? ⟨S, 12, none⟩ = false := rowAt_frz HP.out.kn.st 12
    have f2 : v.frozen? ⟨S, 13, none⟩ = false := rowAt_frz HP.out.kn.st 13
    have f3 : v.frozen? ⟨S, 14, none⟩ = false := rowAt_frz HP.out.kn.st 14
    go_simp
    clear z0 f0 z1 f1 z2 f2 z3 f3
    replace HP := Lib.hid (HP.out.putS (w' := ((((v.setCell ⟨S, 11, none⟩ (.int .i64 1)).setCell ⟨S, 12, none⟩ (.int .i64 1)).setCell ⟨S, 13, none⟩ (.int .i64 0)).setCell ⟨S, 14, none⟩ (.int .i64 0))) (SA' := SN2 E Y R K m1 m2) ((((grown_set _ ⟨S, 11, none⟩ _).trans (grown_set _ ⟨S, 12, none⟩ _)).trans (grown_set _ ⟨S, 13, none⟩ _)).trans (grown_set _ ⟨S, 14, none⟩ _)) ((rowAt_set (rowAt_set (rowAt_set (rowAt_set HP.out.kn.st 11 _) 12 _) 13 _) 14 _).trans (by kernel_rfl)) rfl rfl rfl)
    refine hK.out _ _ ⟨rowAt_cell HP.out.ec 0, rowAt_cell HP.out.ec 1, rowAt_cell HP.out.ec 2, rowAt_cell HP.out.ec 3, rowAt_cell HP.out.kn.st 41⟩ (fun hHeld => ?_)
    clear hK K'
    try simp only [Act.put, List.setIfInBounds_toArray, List.set_cons_zero, List.set_cons_succ]
    generalize ((((v.setCell ⟨S, 11, none⟩ (.int .i64 1)).setCell ⟨S, 12, none⟩ (.int .i64 1)).setCell ⟨S, 13, none⟩ (.int .i64 0)).setCell ⟨S, 14, none⟩ (.int .i64 0)) = v1 at hHeld HP ⊢
    refine wpAnyH_take (i := 13) (oi := { dst := some 66, op := Op.indexAddr 37 (Operand.tmp 59) (Operand.tmp 60), type := 0, pos := "stamp.go:116", after := #[{ on := 5, ground := Ground.data }, { on := 6, ground := Ground.data }, { on := 0, ground := Ground.phase }, { on := 1, ground := Ground.phase }, { on := 2, ground := Ground.phase }, { on := 3, ground := Ground.phase }, { on := 4, ground := Ground.phase }, { on := 5, ground := Ground.phase }, { on := 6, ground := Ground.phase }, { on := 7, ground := Ground.phase }, { on := 8, ground := Ground.phase }, { on := 9, ground := Ground.phase }, { on := 10, ground := Ground.phase }, { on := 11, ground := Ground.phase }, { on := 12, ground := Ground.phase }], guard := none }) (v := ?_) rfl (by kernel_rfl) (by kernel_rfl) (by kernel_rfl) (fun _ _ _ h => h) (Or.inl ⟨by rfl, ?_⟩) (by assumption) ?_
    rotate_left
    · (intro w9 hSw; (try dsimp only at hSw); go_split_ands; go_simp; with_reducible rfl)
    try simp only [Act.put, List.setIfInBounds_toArray, List.set_cons_zero, List.set_cons_succ]
    refine wpAnyH_ready (rs := [14]) (by kernel_rfl) (by simp) ?_
    refine AllReadyH.cons (o := { dst := none, op := Op.store 24 (Operand.tmp 66) (Operand.tmp 62), type := 0, pos := "stamp.go:116", after := #[{ on := 13, ground := Ground.data }, { on := 8, ground := Ground.data }, { on := 12, ground := Ground.chain }, { on := 0, ground := Ground.phase }, { on := 1, ground := Ground.phase }, { on := 2, ground := Ground.phase }, { on := 3, ground := Ground.phase }, { on := 4, ground := Ground.phase }, { on := 5, ground := Ground.phase }, { on := 6, ground := Ground.phase }, { on := 7, ground := Ground.phase }, { on := 8, ground := Ground.phase }, { on := 9, ground := Ground.phase }, { on := 10, ground := Ground.phase }, { on := 11, ground := Ground.phase }, { on := 12, ground := Ground.phase }], guard := none }) rfl (fun K' hK => ?_) AllReadyH.nil
    have z0 : v1.cell? ⟨K, 4, none⟩ = some (.int .i64 0) := rowAt_cell HP.out.ka 4
    have z1 : v1.cell? ⟨K, 5, none⟩ = some (.int .i64 0) := rowAt_cell HP.out.ka 5
    have z2 : v1.cell? ⟨K, 6, none⟩ = some (.int .i64 0) := rowAt_cell HP.out.ka 6
    have z3 : v1.cell? ⟨K, 7, none⟩ = some (.int .i64 0) := rowAt_cell HP.out.ka 7
    have f0 : v1.frozen? ⟨K, 4, none⟩ = false := rowAt_frz HP.out.ka 4
    have f1 : v1.frozen? ⟨K, 5, none⟩ = false := rowAt_frz HP.out.ka 5
    have f2 : v1.frozen? ⟨K, 6, none⟩ = false := rowAt_frz HP.out.ka 6
    have f3 : v1.frozen? ⟨K, 7, none⟩ = false := rowAt_frz HP.out.ka 7
    go_simp
    clear z0 f0 z1 f1 z2 f2 z3 f3
    replace HP := Lib.hid (HP.out.putK (w' := ((((v1.setCell ⟨K, 4, none⟩ (.int .i64 1)).setCell ⟨K, 5, none⟩ (.int .i64 1)).setCell ⟨K, 6, none⟩ (.int .i64 0)).setCell ⟨K, 7, none⟩ (.int .i64 0))) (KA' := #[.int .i64 1, .int .i64 0, .int .i64 0, .int .i64 0, .int .i64 1, .int .i64 1, .int .i64 0, .int .i64 0, .int .i64 2, .int .i64 0, .int .i64 0, .int .i64 0]) ((((grown_set _ ⟨K, 4, none⟩ _).trans (grown_set _ ⟨K, 5, none⟩ _)).trans (grown_set _ ⟨K, 6, none⟩ _)).trans (grown_set _ ⟨K, 7, none⟩ _)) ((rowAt_set (rowAt_set (rowAt_set (rowAt_set HP.out.ka 4 _) 5 _) 6 _) 7 _).trans (by kernel_rfl)))
    refine hK.out _ _ ⟨rowAt_cell HP.out.ec 0, rowAt_cell HP.out.ec 1, rowAt_cell HP.out.ec 2, rowAt_cell HP.out.ec 3, rowAt_cell HP.out.kn.st 41⟩ (fun hHeld => ?_)
    clear hK K'
    try simp only [Act.put, List.setIfInBounds_toArray, List.set_cons_zero, List.set_cons_succ]
    generalize ((((v1.setCell ⟨K, 4, none⟩ (.int .i64 1)).setCell ⟨K, 5, none⟩ (.int .i64 1)).setCell ⟨K, 6, none⟩ (.int .i64 0)).setCell ⟨K, 7, none⟩ (.int .i64 0)) = v2 at hHeld HP ⊢
    refine wpAnyH_done (by kernel_rfl) ?_ _
    clear hHeld
    go_wp2
    refine wp_region_held_drew (S := (fun w' => w'.cell? ⟨cb, 0, none⟩ = some (.int .i64 1) ∧ w'.cell? ⟨cb, 1, none⟩ = some (.int .i64 1) ∧ w'.cell? ⟨cb, 2, none⟩ = some (.int .i64 0) ∧ w'.cell? ⟨cb, 3, none⟩ = some (.int .i64 0) ∧ w'.cell? ⟨S, 41, none⟩ = some (.slice (some ⟨K, 0, none⟩) 3 3))) (by kernel_rfl) ⟨rowAt_cell HP.out.ec 0, rowAt_cell HP.out.ec 1, rowAt_cell HP.out.ec 2, rowAt_cell HP.out.ec 3, rowAt_cell HP.out.kn.st 41⟩ (fun hHeld => ?_)
    replace HP := Lib.hid HP.out.same
    generalize hv7 : World.drew _ = v7 at hHeld HP ⊢
    clear hv7
    refine wpAnyH_take (i := 0) (oi := { dst := some 67, op := Op.move (Operand.tmp 0), type := 50, pos := "stamp.go:117", after := #[], guard := none }) (v := ?_) rfl (by kernel_rfl) (by kernel_rfl) (by kernel_rfl) (fun _ _ _ h => h) (Or.inl ⟨by rfl, ?_⟩) (by assumption) ?_
    rotate_left
    · (intro w9 hSw; (try dsimp only at hSw); go_split_ands; go_simp; with_reducible rfl)
    try simp only [Act.put, List.setIfInBounds_toArray, List.set_cons_zero, List.set_cons_succ]
    refine wpAnyH_take (i := 1) (oi := { dst := some 68, op := Op.move (Operand.tmp 5), type := 3, pos := "stamp.go:117", after := #[], guard := none }) (v := ?_) rfl (by kernel_rfl) (by kernel_rfl) (by kernel_rfl) (fun _ _ _ h => h) (Or.inl ⟨by rfl, ?_⟩) (by assumption) ?_
    rotate_left
    · (intro w9 hSw; (try dsimp only at hSw); go_split_ands; go_simp; with_reducible rfl)
    try simp only [Act.put, List.setIfInBounds_toArray, List.set_cons_zero, List.set_cons_succ]
    refine wpAnyH_take (i := 2) (oi := { dst := some 69, op := Op.nilCheck (Operand.tmp 67), type := 0, pos := "stamp.go:117", after := #[{ on := 0, ground := Ground.data }], guard := none }) (v := ?_) rfl (by kernel_rfl) (by kernel_rfl) (by kernel_rfl) (fun _ _ _ h => h) (Or.inl ⟨by rfl, ?_⟩) (by assumption) ?_
    rotate_left
    · (intro w9 hSw; (try dsimp only at hSw); go_split_ands; go_simp; with_reducible rfl)
    try simp only [Act.put, List.setIfInBounds_toArray, List.set_cons_zero, List.set_cons_succ]
    refine wpAnyH_take (i := 3) (oi := { dst := some 70, op := Op.fieldAddr 59 (Operand.tmp 69) 3, type := 0, pos := "stamp.go:117", after := #[{ on := 2, ground := Ground.data }], guard := none }) (v := ?_) rfl (by kernel_rfl) (by kernel_rfl) (by kernel_rfl) (fun _ _ _ h => h) (Or.inl ⟨by rfl, ?_⟩) (by assumption) ?_
    rotate_left
    · (intro w9 hSw; (try dsimp only at hSw); go_split_ands; go_simp; with_reducible rfl)
    try simp only [Act.put, List.setIfInBounds_toArray, List.set_cons_zero, List.set_cons_succ]
    refine wpAnyH_take (i := 4) (oi := { dst := some 71, op := Op.indexAddr 24 (Operand.tmp 70) (Operand.tmp 68), type := 0, pos := "stamp.go:117", after := #[{ on := 3, ground := Ground.data }, { on := 1, ground := Ground.data }], guard := none }) (v := ?_) rfl (by kernel_rfl) (by kernel_rfl) (by kernel_rfl) (fun _ _ _ h => h) (Or.inl ⟨by rfl, ?_⟩) (by assumption) ?_
    rotate_left
    · (intro w9 hSw; (try dsimp only at hSw); go_split_ands; go_simp; with_reducible rfl)
    try simp only [Act.put, List.setIfInBounds_toArray, List.set_cons_zero, List.set_cons_succ]
    refine wpAnyH_take (i := 7) (oi := { dst := some 74, op := Op.nilCheck (Operand.tmp 67), type := 0, pos := "stamp.go:117", after := #[{ on := 0, ground := Ground.data }], guard := none }) (v := ?_) rfl (by kernel_rfl) (by kernel_rfl) (by kernel_rfl) (fun _ _ _ h => h) (Or.inl ⟨by rfl, ?_⟩) (by assumption) ?_
    rotate_left
    · (intro w9 hSw; (try dsimp only at hSw); go_split_ands; go_simp; with_reducible rfl)
    try simp only [Act.put, List.setIfInBounds_toArray, List.set_cons_zero, List.set_cons_succ]
    refine wpAnyH_take (i := 8) (oi := { dst := some 75, op := Op.fieldAddr 59 (Operand.tmp 74) 3, type := 0, pos := "stamp.go:117", after := #[{ on := 7, ground := Ground.data }], guard := none }) (v := ?_) rfl (by kernel_rfl) (by kernel_rfl) (by kernel_rfl) (fun _ _ _ h => h) (Or.inl ⟨by rfl, ?_⟩) (by assumption) ?_
    rotate_left
    · (intro w9 hSw; (try dsimp only at hSw); go_split_ands; go_simp; with_reducible rfl)
    try simp only [Act.put, List.setIfInBounds_toArray, List.set_cons_zero, List.set_cons_succ]
    refine wpAnyH_ready (rs := [5]) (by kernel_rfl) (by simp) ?_
    refine AllReadyH.cons (o := { dst := some 72, op := Op.load 3 (Operand.tmp 71), type := 3, pos := "stamp.go:117", after := #[{ on := 4, ground := Ground.data }], guard := none }) rfl (fun K' hK => ?_) AllReadyH.nil
    have z0 : v7.cell? ⟨S, 4, none⟩ = some (.int .i64 0) := rowAt_cell HP.out.kn.st 4
    go_simp
    clear z0
    refine hK.out _ _ ⟨rowAt_cell HP.out.ec 0, rowAt_cell HP.out.ec 1, rowAt_cell HP.out.ec 2, rowAt_cell HP.out.ec 3, rowAt_cell HP.out.kn.st 41⟩ (fun hHeld => ?_)
    clear hK K'
    try simp only [Act.put, List.setIfInBounds_toArray, List.set_cons_zero, List.set_cons_succ]
    refine wpAnyH_take (i := 6) (oi := { dst := some 73, op := Op.binOp BinOp.add 3 (Operand.tmp 72) (Operand.const (Value.int IntKind.i64 1)) 3, type := 3, pos := "stamp.go:117", after := #[{ on := 5, ground := Ground.data }], guard := none }) (v := ?_) rfl (by kernel_rfl) (by kernel_rfl) (by kernel_rfl) (fun _ _ _ h => h) (Or.inl ⟨by rfl, ?_⟩) (by assumption) ?_
    rotate_left
    · (intro w9 hSw; (try dsimp only at hSw); go_split_ands; go_simp; with_reducible rfl)
    try simp only [Act.put, List.setIfInBounds_toArray, List.set_cons_zero, List.set_cons_succ]
    refine wpAnyH_take (i := 9) (oi := { dst := some 76, op := Op.indexAddr 24 (Operand.tmp 75) (Operand.tmp 68), type := 0, pos := "stamp.go:117", after := #[{ on := 8, ground := Ground.data }, { on := 1, ground := Ground.data }, { on := 0, ground := Ground.phase }, { on := 1, ground := Ground.phase }, { on := 2, ground := Ground.phase }, { on := 3, ground := Ground.phase }, { on := 4, ground := Ground.phase }, { on := 5, ground := Ground.phase }, { on := 6, ground := Ground.phase }], guard := none }) (v := ?_) rfl (by kernel_rfl) (by kernel_rfl) (by kernel_rfl) (fun _ _ _ h => h) (Or.inl ⟨by rfl, ?_⟩) (by assumption) ?_
    rotate_left
    · (intro w9 hSw; (try dsimp only at hSw); go_split_ands; go_simp; with_reducible rfl)
    try simp only [Act.put, List.setIfInBounds_toArray, List.set_cons_zero, List.set_cons_succ]
    refine wpAnyH_ready (rs := [10]) (by kernel_rfl) (by simp) ?_
    refine AllReadyH.cons (o := { dst := none, op := Op.store 3 (Operand.tmp 76) (Operand.tmp 73), type := 0, pos := "stamp.go:117", after := #[{ on := 9, ground := Ground.data }, { on := 6, ground := Ground.data }, { on := 0, ground := Ground.phase }, { on := 1, ground := Ground.phase }, { on := 2, ground := Ground.phase }, { on := 3, ground := Ground.phase }, { on := 4, ground := Ground.phase }, { on := 5, ground := Ground.phase }, { on := 6, ground := Ground.phase }], guard := none }) rfl (fun K' hK => ?_) AllReadyH.nil
    have z0 : v7.cell? ⟨S, 4, none⟩ = some (.int .i64 0) := rowAt_cell HP.out.kn.st 4
    have f0 : v7.frozen? ⟨S, 4, none⟩ = false := rowAt_frz HP.out.kn.st 4
    go_simp
    clear z0 f0
    replace HP := Lib.hid (HP.out.putS (w' := (v7.setCell ⟨S, 4, none⟩ (.int .i64 (IntKind.i64.wrap 1)))) (SA' := SA3 E Y R K m1 m2) (grown_set _ ⟨S, 4, none⟩ _) ((rowAt_set HP.out.kn.st 4 _).trans (by kernel_rfl)) rfl rfl rfl)
    refine hK.out _ _ ⟨rowAt_cell HP.out.ec 0, rowAt_cell HP.out.ec 1, rowAt_cell HP.out.ec 2, rowAt_cell HP.out.ec 3, rowAt_cell HP.out.kn.st 41⟩ (fun hHeld => ?_)
    clear hK K'
    try simp only [Act.put, List.setIfInBounds_toArray, List.set_cons_zero, List.set_cons_succ]
    refine wpAnyH_done (by kernel_rfl) ?_ _
    generalize (v7.setCell ⟨S, 4, none⟩ (.int .i64 (IntKind.i64.wrap 1))) = v8 at hHeld HP ⊢
    clear hHeld
    have x0 : v8.cell? ⟨x, 0, none⟩ = some (.int .i64 1) := rowAt_cell HP.out.ex 0
    have x1 : v8.cell? ⟨x, 1, none⟩ = some (.int .i64 7) := rowAt_cell HP.out.ex 1
    have x2 : v8.cell? ⟨x, 2, none⟩ = some (.int .i64 0) := rowAt_cell HP.out.ex 2
    have x3 : v8.cell? ⟨x, 3, none⟩ = some (.int .i64 0) := rowAt_cell HP.out.ex 3
    have x4 : v8.cell? ⟨x, 4, none⟩ = some (.int .i64 0) := rowAt_cell HP.out.ex 4
    have x5 : v8.cell? ⟨x, 5, none⟩ = some (.bool false) := rowAt_cell HP.out.ex 5
    have x6 : v8.cell? ⟨x, 6, none⟩ = some (.int .i64 0) := rowAt_cell HP.out.ex 6
    have x7 : v8.cell? ⟨x, 7, none⟩ = some (.int .i64 0) := rowAt_cell HP.out.ex 7
    have x8 : v8.cell? ⟨x, 8, none⟩ = some (.int .i64 2) := rowAt_cell HP.out.ex 8
    go_wp2
    go_end0
    exact ⟨rfl, HP.out.kn, HP.out.ka, HP.out.bl⟩
end Go.Proofs.Ytnmgafaebggeiaa
