import Derived.Deep.CutBlock
import Derived.Deep.DeepCutAuto
import Derived.Test.YtnmgafaebggeiaaKb
import Derived.WalkKit
import Derived.ProofKit
import Derived.OpenShut
import Derived.Deep.QuietTactic
import Derived.BigQuiet
import Derived.Outline
import Derived.WalkSmall
import Derived.WalkLawsBesides
import Derived.WalkSpells
import Derived.BigGuardPart
import Derived.RegionTactic
import Derived.Deep.RegionHeld3
import Derived.Lib.Hide
import Derived.Deep.MidRow
import Derived.Below
import Derived.Deep.RegionWith
import Derived.Deep.OwnRows
import Derived.Deep.AppendLies
namespace Go.Proofs.Ytnmgafaebggeiaa
open Go.ChangeShapes Go.WideShapes Go.ChangeAt Go.RowKit
set_option linter.unusedVariables false
set_option maxRecDepth 100000 in
theorem len64_1 (w : World) : Calls Try.prog 47 #[.int .u64 1] w fun e w' => e = .returned (.int .i64 1) ∧ w' = w := by
  go_enter Try.func47, Try.ntmps47
  go_wp2
  go_ret
  exact ⟨by kernel_rfl, rfl⟩
theorem len_1 (w : World) : Calls Try.prog 36 #[.int .u64 1] w fun e w' => e = .returned (.int .i64 1) ∧ w' = w := by
  go_enter Try.func36, Try.ntmps36
  go_wp2_with (first | (go_at_call 47; refine (len64_1 _).mono ?_; rintro e w' ⟨rfl, rfl⟩))
  go_ret
  exact ⟨rfl, rfl⟩
theorem ins_1 (v f : Value) (w : World) : Calls Try.prog 38 #[v, .int .i64 0, .int .i64 1, f] w fun e w' => e = .returned (.tuple #[]) ∧ w' = w := by
  go_enter Try.func38, Try.ntmps38
  go_wp2
  refine wp_loop_rounds 1 ?_
  rw [rounds_succ]
  go_wp2
  go_end0
  exact ⟨rfl, rfl⟩
theorem pdq_1 (v f : Value) (w : World) : Calls Try.prog 35 #[v, .int .i64 0, .int .i64 1, .int .i64 1, f] w fun e w' => e = .returned (.tuple #[]) ∧ w' = w := by
  go_enter Try.func35, Try.ntmps35
  go_wp2
  refine wp_loop_rounds 1 ?_
  rw [rounds_succ]
  go_wp2_with (first | (go_at_call 38; refine (ins_1 _ _ _).mono ?_; rintro e w' ⟨rfl, rfl⟩))
  exact bodyPost_ret (v := .tuple #[]) (by simp [results, Try.results35, go_sem]) rfl ⟨rfl, rfl⟩
theorem sort_1 (A : Addr) (cap : Nat) (f : Value) (w : World) : Calls Try.prog 31 #[.slice (some A) 1 cap, f] w fun e w' => e = .returned (.tuple #[]) ∧ w' = w := by
  go_enter Try.func31, Try.ntmps31
  go_wp2_with (first | (go_at_call 36; refine (len_1 _).mono ?_; rintro e w' ⟨rfl, rfl⟩) | (go_at_call 35; refine (pdq_1 _ _ _).mono ?_; rintro e w' ⟨rfl, rfl⟩))
  go_end0
  exact ⟨rfl, rfl⟩
/-- What the stamper reads at the law's events. -/
structure Kn (E Y R S g0 p0 g1 p1 : Nat) (SA : Array Value) (w : World) : Prop where
  ev : rowAt w E = some evs
  yy : rowAt w Y = some #[.bool true, .bool false, .bool false]
  rr : rowAt w R = some #[.slice (some ⟨g0, 0, none⟩) 2 p0, .slice (some ⟨g1, 0, none⟩) 1 p1, .slice none 0 0, .slice none 0 0]
  a0 : w.cell? ⟨g0, 0, none⟩ = some (.int .i64 0)
  a1 : w.cell? ⟨g0, 1, none⟩ = some (.int .i64 2)
  b0 : w.cell? ⟨g1, 0, none⟩ = some (.int .i64 1)
  st : rowAt w S = some SA
  h0 : 2 ≤ p0
  h1 : 1 ≤ p1
  k0 : g0 < w.heap.size
  k1 : g1 < w.heap.size
  s0 : SA[0]? = some (.slice (some ⟨E, 0, none⟩) 3 3)
  s1 : SA[1]? = some (.slice (some ⟨Y, 0, none⟩) 3 3)
  s2 : SA[2]? = some (.slice (some ⟨R, 0, none⟩) 4 4)
theorem Kn.past {E Y R S g0 p0 g1 p1 : Nat} {SA : Array Value} {w W w' : World} (h : Kn E Y R S g0 p0 g1 p1 SA w) (hb : Below W.heap.size W w') (he : W.heap = w.heap) : Kn E Y R S g0 p0 g1 p1 SA w' := by
  have q : ∀ c i, c < w.heap.size → w'.cell? ⟨c, i, none⟩ = w.cell? ⟨c, i, none⟩ := fun c i hc => by
    have : c < W.heap.size := by rw [he]; exact hc
    rw [hb.cell (p := ⟨c, i, none⟩) this]
    unfold World.cell?
    rw [he]
  have hs := hb.size
  rw [he] at hs
  exact ⟨rowAt_below h.ev hb he, rowAt_below h.yy hb he, rowAt_below h.rr hb he, (q _ _ h.k0).trans h.a0, (q _ _ h.k0).trans h.a1, (q _ _ h.k1).trans h.b0, rowAt_below h.st hb he, h.h0, h.h1, Nat.lt_of_lt_of_le h.k0 hs, Nat.lt_of_lt_of_le h.k1 hs, h.s0, h.s1, h.s2⟩
def SyncsP (w : World) (e : Ending) (w' : World) : Prop := ∃ g c, e = .returned (.tuple #[.slice (some ⟨g, 0, none⟩) 1 c, .bool true]) ∧ w'.cell? ⟨g, 0, none⟩ = some (.int .i64 0) ∧ w.heap.size ≤ g ∧ g < w'.heap.size ∧ 1 ≤ c ∧ Below w.heap.size w w'
set_option maxRecDepth 100000 in
set_option maxHeartbeats 8000000 in
theorem syncs_c {E Y R S g0 p0 g1 p1 : Nat} {SA : Array Value} (w : World) (hk : Kn E Y R S g0 p0 g1 p1 SA w) : Calls Try.prog 27 #[.pointer (some ⟨S, 0, none⟩)] w (SyncsP w) := by
  obtain ⟨i0, hi, hz0, hz1, hz2⟩ := info_parts info3
  have K0 : Hid (Kn E Y R S g0 p0 g1 p1 SA (w.alloc (.cells #[.pointer (some ⟨S, 0, none⟩)] 50))) := Lib.hid (hk.past ((Below.refl _ _).alloc (Nat.le_refl _) _) rfl)
  have X0 : Hid (rowAt (w.alloc (.cells #[.pointer (some ⟨S, 0, none⟩)] 50)) w.heap.size = some #[.pointer (some ⟨S, 0, none⟩)]) := Lib.hid (rowAt_new _ _ _)
  have B0 : Hid (Below w.heap.size w (w.alloc (.cells #[.pointer (some ⟨S, 0, none⟩)] 50))) := Lib.hid ((Below.refl _ _).alloc (Nat.le_refl _) _)
  have h0 := hk.h0
  have h1 := hk.h1
  clear hk
  go_enter Try.func27, Try.ntmps27
  go_upto_region 2 with (fail)
  generalize (w.alloc (.cells #[.pointer (some ⟨S, 0, none⟩)] 50)) = W at K0 X0 B0 ⊢
  obtain ⟨bx, hbx⟩ : ∃ bx, bx = w.heap.size := ⟨_, rfl⟩
  rw [← hbx] at X0 ⊢
  have HBX := Lib.hid hbx
  clear hbx
  have s0 : W.cell? ⟨S, 0, none⟩ = some (.slice (some ⟨E, 0, none⟩) 3 3) := (rowAt_cell K0.out.st 0).trans K0.out.s0
  have s1 : W.cell? ⟨S, 1, none⟩ = some (.slice (some ⟨Y, 0, none⟩) 3 3) := (rowAt_cell K0.out.st 1).trans K0.out.s1
  have s2 : W.cell? ⟨S, 2, none⟩ = some (.slice (some ⟨R, 0, none⟩) 4 4) := (rowAt_cell K0.out.st 2).trans K0.out.s2
  have x0 : W.cell? ⟨bx, 0, none⟩ = some (.pointer (some ⟨S, 0, none⟩)) := rowAt_cell X0.out 0
  have r0 : W.cell? ⟨R, 0, none⟩ = some (.slice (some ⟨g0, 0, none⟩) 2 p0) := rowAt_cell K0.out.rr 0
  have r1 : W.cell? ⟨R, 1, none⟩ = some (.slice (some ⟨g1, 0, none⟩) 1 p1) := rowAt_cell K0.out.rr 1
  have r2 : W.cell? ⟨R, 2, none⟩ = some (.slice none 0 0) := rowAt_cell K0.out.rr 2
  have r3 : W.cell? ⟨R, 3, none⟩ = some (.slice none 0 0) := rowAt_cell K0.out.rr 3
  have y0 : W.cell? ⟨Y, 0, none⟩ = some (.bool true) := rowAt_cell K0.out.yy 0
  have y1 : W.cell? ⟨Y, 1, none⟩ = some (.bool false) := rowAt_cell K0.out.yy 1
  have y2 : W.cell? ⟨Y, 2, none⟩ = some (.bool false) := rowAt_cell K0.out.yy 2
  have e0 := K0.out.a0
  have e1 := K0.out.a1
  have e2 := K0.out.b0
  go_wp2
  refine wp_loop_rounds 5 ?_
  rw [rounds_succ]
  go_wp2
  refine wp_loop_rounds 3 ?_
  rw [rounds_succ]
  go_wp2
  go_quiet (fail)
  go_wp2_with (first | (at_builtin; refine wpList_append_lies _ rfl _ _ 61 rfl W.heap.size 3 i0 _ 1 8 Try.underlying61 hi hz0 hz1 hz2 rfl (by omega) (.slice none 0 0) 0 [] rfl ⟨rfl, .inl ⟨rfl, rfl⟩⟩ ⟨W.heap.size, 0, none⟩ 1 1 [.int .i64 0] rfl rfl (fun j u hu => news1 (rowAt_new (W.drewN nq) (.int .i64 0 |> fun x => #[x]) 3) j u hu) (by intro u hu; simp only [List.mem_singleton] at hu; subst hu; rfl) (by omega) (by decide) (by decide) (by simp) _ rfl ?_; intro g c w2 ho hg hl hlt; have HO := Lib.hid ho; have HB2 : Hid (Below W.heap.size W w2) := Lib.hid (((below_drewN (Below.refl _ _) nq).alloc (Nat.le_refl _) _).grown hg (by simp) (fun k h => by simp [Value.ownBlock] at h)); clear ho hg hl; clear s0 s1 s2 x0 r0 r1 r2 r3 y0 y1 y2 e0 e1 e2; have K2 := Lib.hid (K0.out.past HB2.out rfl); have X2 := Lib.hid (rowAt_below X0.out HB2.out rfl); have s0 : w2.cell? ⟨S, 0, none⟩ = some (.slice (some ⟨E, 0, none⟩) 3 3) := (rowAt_cell K2.out.st 0).trans K2.out.s0;have s1 : w2.cell? ⟨S, 1, none⟩ = some (.slice (some ⟨Y, 0, none⟩) 3 3) := (rowAt_cell K2.out.st 1).trans K2.out.s1;have s2 : w2.cell? ⟨S, 2, none⟩ = some (.slice (some ⟨R, 0, none⟩) 4 4) := (rowAt_cell K2.out.st 2).trans K2.out.s2;have x0 : w2.cell? ⟨bx, 0, none⟩ = some (.pointer (some ⟨S, 0, none⟩)) := rowAt_cell X2.out 0;have r0 : w2.cell? ⟨R, 0, none⟩ = some (.slice (some ⟨g0, 0, none⟩) 2 p0) := rowAt_cell K2.out.rr 0;have r1 : w2.cell? ⟨R, 1, none⟩ = some (.slice (some ⟨g1, 0, none⟩) 1 p1) := rowAt_cell K2.out.rr 1;have r2 : w2.cell? ⟨R, 2, none⟩ = some (.slice none 0 0) := rowAt_cell K2.out.rr 2;have r3 : w2.cell? ⟨R, 3, none⟩ = some (.slice none 0 0) := rowAt_cell K2.out.rr 3;have y0 : w2.cell? ⟨Y, 0, none⟩ = some (.bool true) := rowAt_cell K2.out.yy 0;have y1 : w2.cell? ⟨Y, 1, none⟩ = some (.bool false) := rowAt_cell K2.out.yy 1;have y2 : w2.cell? ⟨Y, 2, none⟩ = some (.bool false) := rowAt_cell K2.out.yy 2;have e0 := K2.out.a0;have e1 := K2.out.a1;have e2 := K2.out.b0))
  rw [rounds_succ]
  go_wp2
  rw [rounds_succ]
  go_wp2
  rw [rounds_succ]
  go_wp2
  refine wp_loop_rounds 2 ?_
  rw [rounds_succ]
  go_wp2
  rw [rounds_succ]
  go_wp2
  rw [rounds_succ]
  go_wp2
  refine wp_loop_rounds 1 ?_
  rw [rounds_succ]
  go_wp2
  rw [rounds_succ]
  go_wp2
  refine wp_loop_rounds 1 ?_
  rw [rounds_succ]
  go_wp2
  rw [rounds_succ]
  go_wp2_with (first | (go_at_call 31; refine (sort_1 _ _ _ _).mono ?_; rintro e w' ⟨rfl, rfl⟩))
  refine wp_loop_rounds 1 ?_
  rw [rounds_succ]
  go_wp2
  go_ret2
  have hc : 1 ≤ c := by
    rcases HO.out.2 with ⟨h, _⟩ | ⟨g', cap', cur, hv, _, _, hle, _⟩
    · cases h
    · injection hv with _ _ e3
      omega
  exact ⟨g, c, rfl, HO.out.cellAt 0 (by omega), Nat.le_trans B0.out.size (HO.out.lt g rfl).1, hlt, hc, B0.out.trans (HB2.out.mono B0.out.size)⟩
end Go.Proofs.Ytnmgafaebggeiaa
