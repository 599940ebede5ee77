import Derived.Test.YtpiafgmncfibmaaMt
import Derived.Test.YtpiafgmncfibmaaRows
import Derived.Deep.CutBlock
import Derived.Deep.DeepCutAuto
import Derived.Carry
import Derived.Lib.SlBytesConst
import Derived.WalkKit
import Derived.ProofKit
import Derived.OpenShut
import Derived.Deep.QuietTactic
import Derived.BigQuiet
import Derived.Outline
import Derived.WalkSmall
import Derived.WalkLawsBesides
import Derived.WalkSpells
import Derived.BigGuardPart
import Derived.RegionTactic
import Derived.Deep.RegionHeld3
import Derived.Lib.Hide
import Derived.Deep.MidRow
import Derived.Below
import Derived.Deep.RegionWith
import Derived.Deep.OwnRows
import Derived.Deep.AppendLies
namespace Go.Proofs.Ytpiafgmncfibmaa
open Go.ChangeShapes Go.WideShapes Go.ChangeAt Go.RowKit
set_option linter.unusedVariables false

def z3 : Array Value := #[.slice none 0 0, .slice none 0 0, .slice none 0 0]
theorem magic4 (w : World) : ∀ (j : Nat) (u : Int), ([66, 90, 82, 49] : List Int)[j]? = some u → (w.alloc (.cells #[.int .u8 66, .int .u8 90, .int .u8 82, .int .u8 49] 5 (4, 5))).cell? ((⟨w.heap.size, 0, none⟩ : Addr).add j) = some (.int .u8 u) := by
  intro j u hu
  refine World.news_of_block (B := w.heap.size) (heap_alloc_new w _) j _ ?_
  have hj : j < 4 := by
    have := (List.getElem?_eq_some_iff.1 hu).1
    simpa using this
  have : j = 0 ∨ j = 1 ∨ j = 2 ∨ j = 3 := by omega
  rcases this with rfl | rfl | rfl | rfl
  all_goals (simp at hu; subst hu; rfl)
theorem magicQ (w : World) : ∀ (j : Nat) (u : Int), ([66, 90, 82, 49] : List Int)[j]? = some u → ((w.alloc (.cells z3 26)).alloc (.cells #[.int .u8 66, .int .u8 90, .int .u8 82, .int .u8 49] 5 (4, 5))).cell? ⟨w.heap.size + 1, j, none⟩ = some (.int .u8 u) := by
  intro j u hu
  have h := magic4 (w.alloc (.cells z3 26)) j u hu
  have ha : (w.alloc (.cells z3 26)).heap.size = w.heap.size + 1 := by simp
  rw [ha, Addr.add_lit, Nat.zero_add] at h
  exact h
theorem magicC (w : World) : (convert 29 29 (.slice (some ⟨w.heap.size + 1, 0, none⟩) 4 4)).run Try.prog ((w.alloc (.cells #[.slice none 0 0, .slice none 0 0, .slice none 0 0] 26)).alloc (.cells #[.int .u8 66, .int .u8 90, .int .u8 82, .int .u8 49] 5)) = .ok (.slice (some ⟨w.heap.size + 1, 0, none⟩) 4 4) ((w.alloc (.cells #[.slice none 0 0, .slice none 0 0, .slice none 0 0] 26)).alloc (.cells #[.int .u8 66, .int .u8 90, .int .u8 82, .int .u8 49] 5 (4, 5))) := by
  have h := Lib.run_convert_bytes_const (P := Try.prog) (w.alloc (.cells #[.slice none 0 0, .slice none 0 0, .slice none 0 0] 26)) 29 5 #[.int .u8 66, .int .u8 90, .int .u8 82, .int .u8 49] 4 4 Try.underlying29 Try.underlying5
  have ha : (w.alloc (.cells #[.slice none 0 0, .slice none 0 0, .slice none 0 0] 26)).heap.size = w.heap.size + 1 := by simp
  rw [ha] at h
  exact h
theorem memo3 {I F : World → Nat → Nat → Prop} {Q : Prop} (main : Hid (∀ V n m, I V n m → F V n m) → Q) (leaf : ∀ V n m, I V n m → F V n m) : Q := main (Lib.hid leaf)
theorem memo4 {I F : World → Nat → Nat → Nat → Prop} {Q : Prop} (main : Hid (∀ V n m k, I V n m k → F V n m k) → Q) (leaf : ∀ V n m k, I V n m k → F V n m k) : Q := main (Lib.hid leaf)
structure QS (w V : World) (R B k : Nat) : Prop where
  ps : PS V R B k
  x : rowAt V w.heap.size = some z3
  mg : ∀ (j : Nat) (u : Int), ([66, 90, 82, 49] : List Int)[j]? = some u → V.cell? ⟨w.heap.size + 1, j, none⟩ = some (.int .u8 u)
  lt : w.heap.size + 1 < V.heap.size
  gr : w.grownBy V (some R)
theorem QS.next {w V V' : World} {R B k : Nat} (h : QS w V R B k) (hr : rowAt V' R = some (rdr B 0 14 14 (k + 1))) (hg : V.grownBy V' (some R)) (hR : R < w.heap.size) : QS w V' R B (k + 1) :=
  ⟨h.ps.next hr hg, rowAt_grown h.x hg (by omega), fun j u hu => (hg.cell_far ⟨w.heap.size + 1, j, none⟩ h.lt (by simp; omega)).trans (h.mg j u hu), Nat.lt_of_lt_of_le h.lt hg.size, grown_trans h.gr hg (.inl rfl)⟩
theorem QS.alloc {w V : World} {R B k : Nat} (h : QS w V R B k) (o : Obj) : QS w (V.alloc o) R B k :=
  ⟨h.ps.alloc _, rowAt_past h.x _, fun j u hu => ((grown_alloc V o none).cell_far ⟨w.heap.size + 1, j, none⟩ h.lt (by simp)).trans (h.mg j u hu), by have := h.lt; simp; omega, grown_trans h.gr (grown_alloc V o (some R)) (.inl rfl)⟩
structure TS (w V : World) (R B k Y : Nat) (X : Array Value) : Prop where
  ps : PS V R B k
  x : rowAt V w.heap.size = some z3
  y : rowAt V Y = some X
  ne : w.heap.size < Y
  gr : w.grownBy V (some R)
theorem TS.next {w V V' : World} {R B k Y : Nat} {X : Array Value} (h : TS w V R B k Y X) (hr : rowAt V' R = some (rdr B 0 14 14 (k + 1))) (hg : V.grownBy V' (some R)) (hR : R < w.heap.size) : TS w V' R B (k + 1) Y X :=
  ⟨h.ps.next hr hg, rowAt_grown h.x hg (by omega), rowAt_grown h.y hg (by have := h.ne; omega), h.ne, grown_trans h.gr hg (.inl rfl)⟩
theorem TS.alloc {w V : World} {R B k Y : Nat} {X : Array Value} (h : TS w V R B k Y X) (o : Obj) : TS w (V.alloc o) R B k Y X := ⟨h.ps.alloc _, rowAt_past h.x _, rowAt_past h.y _, h.ne, grown_trans h.gr (grown_alloc V o (some R)) (.inl rfl)⟩
theorem TS.grownN {w V V' : World} {R B k Y : Nat} {X : Array Value} (h : TS w V R B k Y X) (hg : V.grownBy V' none) : TS w V' R B k Y X :=
  ⟨⟨rowAt_grownN h.ps.1 hg, rowAt_grownN h.ps.2.1 hg, h.ps.2.2⟩, rowAt_grownN h.x hg, rowAt_grownN h.y hg, h.ne, ⟨hg.os.trans h.gr.os, hg.tape.trans h.gr.tape, hg.output.trans h.gr.output, Nat.le_trans h.gr.size hg.size, fun i hi hne => (hg.block i (Nat.lt_of_lt_of_le hi h.gr.size) (fun e => nomatch e)).trans (h.gr.block i hi hne)⟩⟩
theorem TS.drew {w V : World} {R B k Y : Nat} {X : Array Value} (h : TS w V R B k Y X) : TS w V.drew R B k Y X := ⟨h.ps, h.x, h.y, h.ne, ⟨h.gr.os, h.gr.tape, h.gr.output, h.gr.size, h.gr.block⟩⟩
theorem TS.method {w V V' : World} {R B k k' Y : Nat} {X : Array Value} (h : TS w V R B k Y X) (hp : PS V' R B k') (hg : V.grownBy V' (some R)) (hR : R < w.heap.size) : TS w V' R B k' Y X :=
  ⟨hp, rowAt_grown h.x hg (by omega), rowAt_grown h.y hg (by have := h.ne; omega), h.ne, grown_trans h.gr hg (.inl rfl)⟩
theorem TS.set {w V : World} {R B k Y : Nat} {X X' : Array Value} (h : TS w V R B k Y X) (j : Nat) (v : Value) (hR : R < w.heap.size) (hB : B < w.heap.size) (hX : X.setIfInBounds j v = X') : TS w (V.setCell ⟨Y, j, none⟩ v) R B k Y X' :=
  ⟨h.ps.set _ _ (by have := h.ne; show R ≠ Y; omega) (by have := h.ne; show B ≠ Y; omega), rowAt_grown h.x (grown_set V _ v) (by have := h.ne; show w.heap.size ≠ Y; omega), hX ▸ rowAt_set h.y j v, h.ne, grown_trans h.gr (grown_set V _ v) (.inr (by have := h.ne; show w.heap.size ≤ Y; omega))⟩
theorem info50 : (Try.prog.info? 50).map (fun i => (i.zero, i.size, i.bytes)) = some (some (.agg z5), 5, 88) := by kernel_rfl
/-- What the parser tells of the law's bytes. -/
def mrow (g cap : Nat) : Array Value := #[.slice none 0 0, .int .i64 0, .slice none 0 0, .int .i64 0, .slice (some ⟨g, 0, none⟩) 1 cap]
structure OutP (w : World) (V : World) (g2 g cap : Nat) : Prop where
  m : ∀ (j : Nat) (v : Value), (mrow g cap)[j]? = some v → V.cell? ⟨g2, j, none⟩ = some v
  c : V.cell? ⟨g, 0, none⟩ = some (.int .u8 28)
  g2 : w.heap.size ≤ g2 ∧ g2 < V.heap.size
  g : w.heap.size ≤ g ∧ g < V.heap.size
theorem OutP.set {w V : World} {g2 g cap : Nat} (h : OutP w V g2 g cap) (a : Addr) (v : Value) (h1 : a.block ≠ g2) (h2 : a.block ≠ g) : OutP w (V.setCell a v) g2 g cap :=
  have hs := (grown_set V a v)
  ⟨fun j u hu => (hs.cell_far ⟨g2, j, none⟩ h.g2.2 (by simp; exact fun e => h1 e.symm)).trans (h.m j u hu), (hs.cell_far ⟨g, 0, none⟩ h.g.2 (by simp; exact fun e => h2 e.symm)).trans h.c, ⟨h.g2.1, Nat.lt_of_lt_of_le h.g2.2 hs.size⟩, ⟨h.g.1, Nat.lt_of_lt_of_le h.g.2 hs.size⟩⟩
theorem grown_below' {W V V' : World} {r : Option Nat} (hb : Below W.heap.size W V') (he : W.heap = V.heap) (ho : W.os = V.os) (ht : W.tape = V.tape) (hp : W.output = V.output) : V.grownBy V' r :=
  ⟨hb.os.trans ho, hb.tape.trans ht, hb.output.trans hp, by rw [← he]; exact hb.size, fun k hk _ => by rw [hb.block k (by rw [he]; exact hk), he]⟩
theorem OutP.below {w V W V' : World} {g2 g cap : Nat} (h : OutP w V g2 g cap) (hb : Below W.heap.size W V') (he : W.heap = V.heap) : OutP w V' g2 g cap := by
  have hc : ∀ b o, b < V.heap.size → V'.cell? ⟨b, o, none⟩ = V.cell? ⟨b, o, none⟩ := fun b o hlt => by
    rw [hb.cell (p := ⟨b, o, none⟩) (by rw [he]; exact hlt)]
    unfold World.cell?
    rw [he]
  have hs := hb.size
  rw [he] at hs
  exact ⟨fun j u hu => (hc g2 j h.g2.2).trans (h.m j u hu), (hc g 0 h.g.2).trans h.c, ⟨h.g2.1, Nat.lt_of_lt_of_le h.g2.2 hs⟩, ⟨h.g.1, Nat.lt_of_lt_of_le h.g.2 hs⟩⟩
theorem own_cells {w : World} {g n cp base size : Nat} {e : TypeId} {xs : List Value} (h : w.ownsRow base e size (.slice (some ⟨g, 0, none⟩) n cp) n xs) : base ≤ g ∧ g < w.heap.size ∧ (∀ p u, xs[p]? = some u → w.cell? ⟨g, p, none⟩ = some u) := by
  rcases h.2 with ⟨h1, _⟩ | ⟨g', cap, cur, hv, hb, hg, hn, hm, hs, ht⟩
  · cases h1
  · injection hv with h1 h2 h3
    injection h1 with h1
    injection h1 with h1
    subst h1 h3
    refine ⟨hb, (Array.getElem?_eq_some_iff.1 hg).1, fun p u hu => ?_⟩
    rw [cell_of_row w g p cur e _ hg]
    rw [← ht] at hu
    rw [List.getElem?_take] at hu
    split at hu
    · simpa using hu
    · cases hu
structure GS (w V : World) (R Y g2 g cap : Nat) (X Z : Array Value) : Prop where
  x : rowAt V w.heap.size = some X
  y : rowAt V Y = some Z
  o : OutP w V g2 g cap
  gr : w.grownBy V (some R)
  ne : w.heap.size < Y
theorem GS.set {w V : World} {R Y g2 g cap : Nat} {X X' Z : Array Value} (h : GS w V R Y g2 g cap X Z) (j : Nat) (v : Value) (hR : R < w.heap.size) (h1 : Y < g) (h2 : Y < g2) (hX : X.setIfInBounds j v = X') : GS w (V.setCell ⟨w.heap.size, j, none⟩ v) R Y g2 g cap X' Z :=
  have hn := h.ne
  ⟨hX ▸ rowAt_set h.x j v, rowAt_grown h.y (grown_set V _ v) (by show Y ≠ w.heap.size; omega), h.o.set _ _ (by show w.heap.size ≠ g2; omega) (by show w.heap.size ≠ g; omega), grown_trans h.gr (grown_set V _ v) (.inr (Nat.le_refl _)), h.ne⟩
def ProgR (R B : Nat) (w : World) (e : Ending) (w' : World) : Prop := ∃ g2 cap2 g cap, e = .returned (.agg #[.slice none 0 0, .slice none 0 0, .slice (some ⟨g2, 0, none⟩) 1 cap2]) ∧ OutP w w' g2 g cap ∧ w.grownBy w' (some R)

set_option maxRecDepth 100000 in
set_option maxHeartbeats 4000000 in
theorem program_c (R B : Nat) (w : World) (HP0 : Hid (PS w R B 0)) : Calls Try.prog 82 #[.pointer (some ⟨R, 0, none⟩)] w (ProgR R B w) := by
  have hR := rowAt_lt HP0.out.1
  have hB := rowAt_lt HP0.out.2.1
  have hmf : ∀ (fn : Fn) (first cap : Array Value) (w : World), (Instr.makeFunc fn first cap).run Try.prog w = .ok (.func fn first cap) w := fun _ _ _ _ => rfl
  have kc : (convert 29 29 (.slice (some ⟨w.heap.size + 1, 0, none⟩) 4 4)).run Try.prog ((w.alloc (.cells #[.slice none 0 0, .slice none 0 0, .slice none 0 0] 26)).alloc (.cells #[.int .u8 66, .int .u8 90, .int .u8 82, .int .u8 49] 5)) = .ok (.slice (some ⟨w.heap.size + 1, 0, none⟩) 4 4) ((w.alloc (.cells #[.slice none 0 0, .slice none 0 0, .slice none 0 0] 26)).alloc (.cells #[.int .u8 66, .int .u8 90, .int .u8 82, .int .u8 49] 5 (4, 5))) := magicC w
  have HS : Hid (QS w ((w.alloc (.cells z3 26)).alloc (.cells #[.int .u8 66, .int .u8 90, .int .u8 82, .int .u8 49] 5 (4, 5))) R B 0) := Lib.hid ⟨(HP0.out.alloc _).alloc _, rowAt_past (rowAt_new _ _ _) _, magicQ w, by simp, grown_trans (grown_alloc _ _ _) (grown_alloc _ _ (some R)) (.inl rfl)⟩
  clear HP0
  go_enter Try.func82, Try.ntmps82
  go_wp2
  clear kc
  generalize hV0 : ((w.alloc (.cells #[.slice none 0 0, .slice none 0 0, .slice none 0 0] 26)).alloc (.cells #[.int .u8 66, .int .u8 90, .int .u8 82, .int .u8 49] 5 (4, 5))) = V0
  replace HS : Hid (QS w V0 R B 0) := Lib.hid (hV0 ▸ HS.out)
  clear hV0
  refine wp_loop_rounds 5 ?_
  rw [rounds_succ]
  have c0 : V0.cell? ⟨w.heap.size + 1, 0, none⟩ = some (.int .u8 66) := HS.out.mg 0 _ rfl
  go_wp2_with fail
  clear c0
  replace HS := Lib.hid (HS.out.alloc (.cells #[.int .u8 66] 5))
  have hm : (V0.alloc (.cells #[.int .u8 66] 5)).cell? ⟨V0.heap.size, 0, none⟩ = some (.int .u8 66) := by simp [go_sem]
  refine (next_magic R B 0 14 14 0 66 5 V0.heap.size _ (Lib.hid HS.out.ps.1) (by decide) (by decide) (ps_byte HS.out.ps 0 _ rfl) (by decide) hm).mono ?_
  rintro e V1 ⟨he, hr, hg⟩
  obtain rfl : e = .returned (.int .i64 66) := he
  replace HS := Lib.hid (HS.out.next hr hg hR)
  clear hr hg
  clear hm
  go_wp2
  rw [rounds_succ]
  have c1 : V1.cell? ⟨w.heap.size + 1, 1, none⟩ = some (.int .u8 90) := HS.out.mg 1 _ rfl
  go_wp2_with fail
  clear c1
  replace HS := Lib.hid (HS.out.alloc (.cells #[.int .u8 90] 5))
  have hm : (V1.alloc (.cells #[.int .u8 90] 5)).cell? ⟨V1.heap.size, 0, none⟩ = some (.int .u8 90) := by simp [go_sem]
  refine (next_magic R B 0 14 14 1 90 5 V1.heap.size _ (Lib.hid HS.out.ps.1) (by decide) (by decide) (ps_byte HS.out.ps 1 _ rfl) (by decide) hm).mono ?_
  rintro e V2 ⟨he, hr, hg⟩
  obtain rfl : e = .returned (.int .i64 90) := he
  replace HS := Lib.hid (HS.out.next hr hg hR)
  clear hr hg
  clear hm
  go_wp2
  rw [rounds_succ]
  have c2 : V2.cell? ⟨w.heap.size + 1, 2, none⟩ = some (.int .u8 82) := HS.out.mg 2 _ rfl
  go_wp2_with fail
  clear c2
  replace HS := Lib.hid (HS.out.alloc (.cells #[.int .u8 82] 5))
  have hm : (V2.alloc (.cells #[.int .u8 82] 5)).cell? ⟨V2.heap.size, 0, none⟩ = some (.int .u8 82) := by simp [go_sem]
  refine (next_magic R B 0 14 14 2 82 5 V2.heap.size _ (Lib.hid HS.out.ps.1) (by decide) (by decide) (ps_byte HS.out.ps 2 _ rfl) (by decide) hm).mono ?_
  rintro e V3 ⟨he, hr, hg⟩
  obtain rfl : e = .returned (.int .i64 82) := he
  replace HS := Lib.hid (HS.out.next hr hg hR)
  clear hr hg
  clear hm
  go_wp2
  rw [rounds_succ]
  have c3 : V3.cell? ⟨w.heap.size + 1, 3, none⟩ = some (.int .u8 49) := HS.out.mg 3 _ rfl
  go_wp2_with fail
  clear c3
  replace HS := Lib.hid (HS.out.alloc (.cells #[.int .u8 49] 5))
  have hm : (V3.alloc (.cells #[.int .u8 49] 5)).cell? ⟨V3.heap.size, 0, none⟩ = some (.int .u8 49) := by simp [go_sem]
  refine (next_magic R B 0 14 14 3 49 5 V3.heap.size _ (Lib.hid HS.out.ps.1) (by decide) (by decide) (ps_byte HS.out.ps 3 _ rfl) (by decide) hm).mono ?_
  rintro e V4 ⟨he, hr, hg⟩
  obtain rfl : e = .returned (.int .i64 49) := he
  replace HS := Lib.hid (HS.out.next hr hg hR)
  clear hr hg
  clear hm
  go_wp2
  rw [rounds_succ]
  go_wp2_with fail
  have HT : Hid (TS w (V4.alloc (.cells z3 26)) R B 4 V4.heap.size z3) := Lib.hid ⟨HS.out.ps.alloc _, rowAt_past HS.out.x _, rowAt_new _ _ _, (by have := HS.out.lt; omega), grown_trans HS.out.gr (grown_alloc _ _ (some R)) (.inl rfl)⟩
  generalize hU : V4.alloc (.cells #[.slice none 0 0, .slice none 0 0, .slice none 0 0] 26) = U0
  replace HT : Hid (TS w U0 R B 4 V4.heap.size z3) := Lib.hid (hU ▸ HT.out)
  clear hU HS
  generalize V4.heap.size = Y at HT ⊢
  have HS := HT
  clear HT
  have hY := HS.out.ne
  refine (rdr_count R B 0 14 14 4 0 200 U0 (Lib.hid HS.out.ps.1) (by decide) (by decide) (ps_byte HS.out.ps 4 _ rfl) (by decide) (by decide) (rowAt_lt HS.out.ps.2.1)).mono ?_
  rintro e V11 ⟨he, hr, hg⟩
  obtain rfl : e = .returned (.int .i64 0) := he
  replace HS := Lib.hid (HS.out.next hr hg hR)
  clear hr hg
  go_wp2_with fail
  refine wp_loop_rounds 1 ?_
  rw [rounds_succ]
  go_wp2_with fail
  refine (rdr_count R B 0 14 14 5 0 50 V11 (Lib.hid HS.out.ps.1) (by decide) (by decide) (ps_byte HS.out.ps 5 _ rfl) (by decide) (by decide) (rowAt_lt HS.out.ps.2.1)).mono ?_
  rintro e V12 ⟨he, hr, hg⟩
  obtain rfl : e = .returned (.int .i64 0) := he
  replace HS := Lib.hid (HS.out.next hr hg hR)
  clear hr hg
  go_wp2_with fail
  refine wp_loop_rounds 1 ?_
  rw [rounds_succ]
  have r1 : V12.cell? ⟨R, 1, none⟩ = some (.int .i64 6) := rowAt_cell HS.out.ps.1 1
  go_wp2_with fail
  clear r1
  refine (rdr_count R B 0 14 14 6 1 100 V12 (Lib.hid HS.out.ps.1) (by decide) (by decide) (ps_byte HS.out.ps 6 _ rfl) (by decide) (by decide) (rowAt_lt HS.out.ps.2.1)).mono ?_
  rintro e V13 ⟨he, hr, hg⟩
  obtain rfl : e = .returned (.int .i64 1) := he
  replace HS := Lib.hid (HS.out.next hr hg hR)
  clear hr hg
  go_wp2_with fail
  refine wp_loop_rounds 2 ?_
  rw [rounds_succ]
  go_wp2
  refine wp_region_held_drew (S := (fun w' => True)) (by kernel_rfl) trivial (fun hHeld => ?_)
  replace HS := Lib.hid HS.out.drew
  generalize V13.drew = u at HS ⊢
  refine wpAnyH_take (i := 0) (oi := { dst := some 57, op := Op.fieldAddr 26 (Operand.tmp 5) 2, type := 0, pos := "parse.go:77", after := #[], guard := none }) (v := ?_) rfl (by kernel_rfl) (by kernel_rfl) (by kernel_rfl) (fun _ _ _ h => h) (Or.inl ⟨by rfl, ?_⟩) (by assumption) ?_
  rotate_left
  · (intro w9 hSw; (try dsimp only at hSw); go_split_ands; go_simp; with_reducible rfl)
  try simp only [Act.put, List.setIfInBounds_toArray, List.set_cons_zero, List.set_cons_succ]
  refine wpAnyH_take (i := 2) (oi := { dst := some 59, op := Op.move (Operand.tmp 0), type := 93, pos := "parse.go:77", after := #[], guard := none }) (v := ?_) rfl (by kernel_rfl) (by kernel_rfl) (by kernel_rfl) (fun _ _ _ h => h) (Or.inl ⟨by rfl, ?_⟩) (by assumption) ?_
  rotate_left
  · (intro w9 hSw; (try dsimp only at hSw); go_split_ands; go_simp; with_reducible rfl)
  try simp only [Act.put, List.setIfInBounds_toArray, List.set_cons_zero, List.set_cons_succ]
  clear hHeld
  apply memo4 (I := fun V nb g cap => Hid (TS w V R B 14 Y z3) ∧ Hid (LB w.heap.size V g 1 cap [28]) ∧ Y < g ∧ Hid (rowAt V nb = some #[.slice none 0 0, .int .i64 0, .slice none 0 0, .int .i64 0, .slice (some ⟨g, 0, none⟩) 1 cap]))
  · intro HLB
    apply memo3 (I := fun V g cap => Hid (TS w V R B 14 Y z3) ∧ Hid (LB w.heap.size V g 1 cap [28]) ∧ Y < g)
    · intro HLC
      refine wpAnyH_ready (rs := [1, 3]) (by kernel_rfl) (by simp) ?_
      refine AllReadyH.cons (o := { dst := some 58, op := Op.load 24 (Operand.tmp 57), type := 24, pos := "parse.go:77", after := #[{ on := 0, ground := Ground.data }], guard := none }) rfl (fun K' hK => ?_) (AllReadyH.cons (o := { dst := some 60, op := Op.call { callee := Callee.value (Operand.func 110), args := #[Operand.tmp 59], argTypes := #[93] }, type := 50, pos := "parse.go:77", after := #[{ on := 2, ground := Ground.data }], guard := none }) rfl (fun K' hK => ?_) AllReadyH.nil)
      · have y2 : u.cell? ⟨Y, 2, none⟩ = some (.slice none 0 0) := rowAt_cell HS.out.y 2
        go_simp
        clear y2
        refine hK.out _ _ trivial (fun hHeld => ?_)
        clear hHeld hK K'
        try simp only [Act.put, List.setIfInBounds_toArray, List.set_cons_zero, List.set_cons_succ]
        refine wpAnyH_ready (rs := [3]) (by kernel_rfl) (by simp) ?_
        refine AllReadyH.cons (o := { dst := some 60, op := Op.call { callee := Callee.value (Operand.func 110), args := #[Operand.tmp 59], argTypes := #[93] }, type := 50, pos := "parse.go:77", after := #[{ on := 2, ground := Ground.data }], guard := none }) rfl (fun K' hK => ?_) AllReadyH.nil
        go_simp
        go_at_call 110
        refine (method_c R B u (Lib.hid HS.out.ps)).mono ?_
        rintro e v ⟨g, cap, rfl, hl, hp, hg⟩
        have HL := Lib.hid (LB.mono' hl (show w.heap.size ≤ _ from HS.out.gr.size))
        have hgY : Y < g := Nat.lt_of_lt_of_le (rowAt_lt HS.out.y) hl.lt.1
        replace HS := Lib.hid (HS.out.method hp hg hR)
        clear hl hp hg
        refine hK.out _ _ trivial (fun hHeld => ?_)
        clear hHeld hK K'
        try simp only [Act.put, List.setIfInBounds_toArray, List.set_cons_zero, List.set_cons_succ]
        exact HLC.out v g cap ⟨HS, HL, hgY⟩
      · go_simp
        go_at_call 110
        refine (method_c R B u (Lib.hid HS.out.ps)).mono ?_
        rintro e v ⟨g, cap, rfl, hl, hp, hg⟩
        have HL := Lib.hid (LB.mono' hl (show w.heap.size ≤ _ from HS.out.gr.size))
        have hgY : Y < g := Nat.lt_of_lt_of_le (rowAt_lt HS.out.y) hl.lt.1
        replace HS := Lib.hid (HS.out.method hp hg hR)
        clear hl hp hg
        refine hK.out _ _ trivial (fun hHeld => ?_)
        clear hHeld hK K'
        try simp only [Act.put, List.setIfInBounds_toArray, List.set_cons_zero, List.set_cons_succ]
        refine wpAnyH_ready (rs := [1, 4]) (by kernel_rfl) (by simp) ?_
        refine AllReadyH.cons (o := { dst := some 58, op := Op.load 24 (Operand.tmp 57), type := 24, pos := "parse.go:77", after := #[{ on := 0, ground := Ground.data }], guard := none }) rfl (fun K' hK => ?_) (AllReadyH.cons (o := { dst := some 61, op := Op.buildSlice 24 1 #[(0, Operand.tmp 60)], type := 24, pos := "parse.go:77", after := #[{ on := 3, ground := Ground.data }], guard := none }) rfl (fun K' hK => ?_) AllReadyH.nil)
        · have y2 : v.cell? ⟨Y, 2, none⟩ = some (.slice none 0 0) := rowAt_cell HS.out.y 2
          go_simp
          clear y2
          refine hK.out _ _ trivial (fun hHeld => ?_)
          clear hHeld hK K'
          try simp only [Act.put, List.setIfInBounds_toArray, List.set_cons_zero, List.set_cons_succ]
          exact HLC.out v g cap ⟨HS, HL, hgY⟩
        · go_simp
          replace HS := Lib.hid (HS.out.alloc (.cells #[.slice none 0 0, .int .i64 0, .slice none 0 0, .int .i64 0, .slice (some ⟨g, 0, none⟩) 1 cap] 50))
          replace HL := Lib.hid (HL.out.alloc (.cells #[.slice none 0 0, .int .i64 0, .slice none 0 0, .int .i64 0, .slice (some ⟨g, 0, none⟩) 1 cap] 50))
          have HN : Hid (rowAt (v.alloc (.cells #[.slice none 0 0, .int .i64 0, .slice none 0 0, .int .i64 0, .slice (some ⟨g, 0, none⟩) 1 cap] 50)) v.heap.size = some #[.slice none 0 0, .int .i64 0, .slice none 0 0, .int .i64 0, .slice (some ⟨g, 0, none⟩) 1 cap]) := Lib.hid (rowAt_new _ _ _)
          refine hK.out _ _ trivial (fun hHeld => ?_)
          clear hHeld hK K'
          try simp only [Act.put, List.setIfInBounds_toArray, List.set_cons_zero, List.set_cons_succ]
          generalize (v.alloc (.cells #[.slice none 0 0, .int .i64 0, .slice none 0 0, .int .i64 0, .slice (some ⟨g, 0, none⟩) 1 cap] 50)) = b at HS HL HN ⊢
          generalize v.heap.size = nb at HN ⊢
          refine wpAnyH_ready (rs := [1]) (by kernel_rfl) (by simp) ?_
          refine AllReadyH.cons (o := { dst := some 58, op := Op.load 24 (Operand.tmp 57), type := 24, pos := "parse.go:77", after := #[{ on := 0, ground := Ground.data }], guard := none }) rfl (fun K' hK => ?_) AllReadyH.nil
          have y2 : b.cell? ⟨Y, 2, none⟩ = some (.slice none 0 0) := rowAt_cell HS.out.y 2
          go_simp
          clear y2
          refine hK.out _ _ trivial (fun hHeld => ?_)
          clear hHeld hK K'
          try simp only [Act.put, List.setIfInBounds_toArray, List.set_cons_zero, List.set_cons_succ]
          exact HLB.out b nb g cap ⟨HS, HL, hgY, HN⟩
    · rintro v g cap ⟨HS, HL, hgY⟩
      refine wpAnyH_ready (rs := [4]) (by kernel_rfl) (by simp) ?_
      refine AllReadyH.cons (o := { dst := some 61, op := Op.buildSlice 24 1 #[(0, Operand.tmp 60)], type := 24, pos := "parse.go:77", after := #[{ on := 3, ground := Ground.data }], guard := none }) rfl (fun K' hK => ?_) AllReadyH.nil
      go_simp
      replace HS := Lib.hid (HS.out.alloc (.cells #[.slice none 0 0, .int .i64 0, .slice none 0 0, .int .i64 0, .slice (some ⟨g, 0, none⟩) 1 cap] 50))
      replace HL := Lib.hid (HL.out.alloc (.cells #[.slice none 0 0, .int .i64 0, .slice none 0 0, .int .i64 0, .slice (some ⟨g, 0, none⟩) 1 cap] 50))
      have HN : Hid (rowAt (v.alloc (.cells #[.slice none 0 0, .int .i64 0, .slice none 0 0, .int .i64 0, .slice (some ⟨g, 0, none⟩) 1 cap] 50)) v.heap.size = some #[.slice none 0 0, .int .i64 0, .slice none 0 0, .int .i64 0, .slice (some ⟨g, 0, none⟩) 1 cap]) := Lib.hid (rowAt_new _ _ _)
      refine hK.out _ _ trivial (fun hHeld => ?_)
      clear hHeld hK K'
      try simp only [Act.put, List.setIfInBounds_toArray, List.set_cons_zero, List.set_cons_succ]
      generalize (v.alloc (.cells #[.slice none 0 0, .int .i64 0, .slice none 0 0, .int .i64 0, .slice (some ⟨g, 0, none⟩) 1 cap] 50)) = b at HS HL HN ⊢
      generalize v.heap.size = nb at HN ⊢
      exact HLB.out b nb g cap ⟨HS, HL, hgY, HN⟩
  · rintro b nb g cap ⟨HS, HL, hgY, HN⟩
    have hnew : ∀ (j : Nat) (u : Value), ([.slice none 0 0, .int .i64 0, .slice none 0 0, .int .i64 0, .slice (some ⟨g, 0, none⟩) 1 cap] : List Value)[j]? = some u → b.cell? ((⟨nb, 0, none⟩ : Addr).add j) = some u := fun j u hu => (by obtain ⟨t, ht⟩ := rowAt_heap HN.out; exact World.news_of_block ht j u hu)
    obtain ⟨i0, hi, hz0, hz1, hz2⟩ := info_parts info50
    have hyl := rowAt_lt HS.out.y
    refine wpAnyH_ready (rs := [5]) (by kernel_rfl) (by simp) ?_
    refine AllReadyH.cons (o := { dst := some 62, op := Op.call { callee := Callee.builtin Builtin.append, args := #[Operand.tmp 58, Operand.tmp 61], argTypes := #[24, 24] }, type := 24, pos := "parse.go:77", after := #[{ on := 1, ground := Ground.data }, { on := 4, ground := Ground.data }, { on := 3, ground := Ground.chain }], guard := none }) rfl (fun K' hK => ?_) AllReadyH.nil
    refine step_append_lies _ (by rfl) (.tmp 58) (.tmp 61) 24 (by rfl) (Y + 1) 50 i0 (.agg z5) 5 88 Try.underlying24 hi hz0 hz1 hz2 rfl (by omega) (.slice none 0 0) 0 [] rfl (World.ownsRow_nil _ _ _ _) ⟨nb, 0, none⟩ 1 1 [.slice none 0 0, .int .i64 0, .slice none 0 0, .int .i64 0, .slice (some ⟨g, 0, none⟩) 1 cap] rfl rfl hnew (by intro u' hu; simp only [List.mem_cons, List.not_mem_nil, or_false] at hu; rcases hu with rfl | rfl | rfl | rfl | rfl <;> rfl) (by omega) (by decide) (by decide) (by omega) _ rfl ?_
    intro g2 cap2 c ho hg hl hlt
    obtain ⟨q1, q2, q3⟩ := own_cells ho
    have HO : Hid (OutP w c g2 g cap) := Lib.hid ⟨fun j v hv => q3 j v (by rw [← hv]; simp [mrow]), ((hg.cell_far ⟨g, 0, none⟩ HL.out.lt.2 (by simp [Value.ownBlock])).trans (HL.out.cell (j := 0) rfl)), ⟨by omega, q2⟩, ⟨by omega, Nat.lt_of_lt_of_le HL.out.lt.2 hg.size⟩⟩
    replace HS := Lib.hid (HS.out.grownN hg)
    have hg2 : Y < g2 := by omega
    clear hnew hg hl hlt ho HN HL hi hz0 hz1 hz2 q1 q2 q3
    refine hK.out _ _ trivial (fun hHeld => ?_)
    clear hHeld hK K'
    try simp only [Act.put, List.setIfInBounds_toArray, List.set_cons_zero, List.set_cons_succ]
    have hTrue : True := trivial
    refine wpAnyH_take (i := 6) (oi := { dst := some 63, op := Op.fieldAddr 26 (Operand.tmp 5) 2, type := 0, pos := "parse.go:77", after := #[{ on := 0, ground := Ground.phase }, { on := 1, ground := Ground.phase }, { on := 2, ground := Ground.phase }, { on := 3, ground := Ground.phase }, { on := 4, ground := Ground.phase }, { on := 5, ground := Ground.phase }], guard := none }) (v := ?_) rfl (by kernel_rfl) (by kernel_rfl) (by kernel_rfl) (fun _ _ _ h => h) (Or.inl ⟨by rfl, ?_⟩) (by assumption) ?_
    rotate_left
    · (intro w9 hSw; (try dsimp only at hSw); go_split_ands; go_simp; with_reducible rfl)
    try simp only [Act.put, List.setIfInBounds_toArray, List.set_cons_zero, List.set_cons_succ]
    clear hTrue
    refine wpAnyH_ready (rs := [7]) (by kernel_rfl) (by simp) ?_
    refine AllReadyH.cons (o := { dst := none, op := Op.store 24 (Operand.tmp 63) (Operand.tmp 62), type := 0, pos := "parse.go:77", after := #[{ on := 6, ground := Ground.data }, { on := 5, ground := Ground.data }, { on := 5, ground := Ground.chain }, { on := 0, ground := Ground.phase }, { on := 1, ground := Ground.phase }, { on := 2, ground := Ground.phase }, { on := 3, ground := Ground.phase }, { on := 4, ground := Ground.phase }, { on := 5, ground := Ground.phase }], guard := none }) rfl (fun K' hK => ?_) AllReadyH.nil
    have y2 : c.cell? ⟨Y, 2, none⟩ = some (.slice none 0 0) := rowAt_cell HS.out.y 2
    have z2 : c.frozen? ⟨Y, 2, none⟩ = false := rowAt_frz HS.out.y 2
    go_simp
    clear y2 z2
    refine hK.out _ _ trivial (fun hHeld => ?_)
    clear hHeld hK K'
    try simp only [Act.put, List.setIfInBounds_toArray, List.set_cons_zero, List.set_cons_succ]
    refine wpAnyH_done (by kernel_rfl) ?_ _
    replace HS : Hid (TS w (c.setCell ⟨Y, 2, none⟩ (.slice (some ⟨g2, 0, none⟩) 1 cap2)) R B 14 Y #[.slice none 0 0, .slice none 0 0, .slice (some ⟨g2, 0, none⟩) 1 cap2]) := Lib.hid (HS.out.set 2 _ hR hB rfl)
    replace HO := Lib.hid (HO.out.set ⟨Y, 2, none⟩ (.slice (some ⟨g2, 0, none⟩) 1 cap2) (by show Y ≠ g2; omega) (by show Y ≠ g; omega))
    generalize c.setCell ⟨Y, 2, none⟩ (.slice (some ⟨g2, 0, none⟩) 1 cap2) = d at HS HO ⊢
    go_wp2
    rw [rounds_succ]
    go_wp2
    have r0 : d.cell? ⟨R, 0, none⟩ = some (.slice (some ⟨B, 0, none⟩) 14 14) := rowAt_cell HS.out.ps.1 0
    have r1 : d.cell? ⟨R, 1, none⟩ = some (.int .i64 14) := rowAt_cell HS.out.ps.1 1
    go_quiet (fail)
    clear r0 r1
    have y2 : d.cell? ⟨Y, 2, none⟩ = some (.slice (some ⟨g2, 0, none⟩) 1 cap2) := rowAt_cell HS.out.y 2
    have m0 : d.cell? ⟨g2, 0, none⟩ = some (.slice none 0 0) := HO.out.m 0 _ rfl
    have m1 : d.cell? ⟨g2, 1, none⟩ = some (.int .i64 0) := HO.out.m 1 _ rfl
    have m2 : d.cell? ⟨g2, 2, none⟩ = some (.slice none 0 0) := HO.out.m 2 _ rfl
    have m3 : d.cell? ⟨g2, 3, none⟩ = some (.int .i64 0) := HO.out.m 3 _ rfl
    have m4 : d.cell? ⟨g2, 4, none⟩ = some (.slice (some ⟨g, 0, none⟩) 1 cap) := HO.out.m 4 _ rfl
    go_wp2_with fail
    refine (first_c none 0 0 0 none 0 0 0 (some ⟨g, 0, none⟩) 1 cap true _ (by decide)).mono ?_
    rintro e f ⟨rfl, hb⟩
    clear y2 m0 m1 m2 m3 m4
    have HF : Hid (GS w f R Y g2 g cap z3 #[.slice none 0 0, .slice none 0 0, .slice (some ⟨g2, 0, none⟩) 1 cap2]) := Lib.hid ⟨rowAt_below (w := d) HS.out.x hb rfl, rowAt_below (w := d) HS.out.y hb rfl, HO.out.below (V := d) hb rfl, grown_trans HS.out.gr (grown_below' (V := d) hb rfl rfl rfl rfl) (.inl rfl), HS.out.ne⟩
    clear hb
    have y0 : f.cell? ⟨Y, 0, none⟩ = some (.slice none 0 0) := rowAt_cell HF.out.y 0
    have y1 : f.cell? ⟨Y, 1, none⟩ = some (.slice none 0 0) := rowAt_cell HF.out.y 1
    have y2 : f.cell? ⟨Y, 2, none⟩ = some (.slice (some ⟨g2, 0, none⟩) 1 cap2) := rowAt_cell HF.out.y 2
    have x0 : f.cell? ⟨w.heap.size, 0, none⟩ = some (.slice none 0 0) := rowAt_cell HF.out.x 0
    have z0 : f.frozen? ⟨w.heap.size, 0, none⟩ = false := rowAt_frz HF.out.x 0
    have x1 : f.cell? ⟨w.heap.size, 1, none⟩ = some (.slice none 0 0) := rowAt_cell HF.out.x 1
    have z1 : f.frozen? ⟨w.heap.size, 1, none⟩ = false := rowAt_frz HF.out.x 1
    have x2 : f.cell? ⟨w.heap.size, 2, none⟩ = some (.slice none 0 0) := rowAt_cell HF.out.x 2
    have z2 : f.frozen? ⟨w.heap.size, 2, none⟩ = false := rowAt_frz HF.out.x 2
    go_wp2
    clear y0 x0 z0 y1 x1 z1 y2 x2 z2
    replace HF : Hid (GS w (f.setCell ⟨w.heap.size, 0, none⟩ (.slice none 0 0)) R Y g2 g cap #[.slice none 0 0, .slice none 0 0, .slice none 0 0] #[.slice none 0 0, .slice none 0 0, .slice (some ⟨g2, 0, none⟩) 1 cap2]) := Lib.hid (HF.out.set 0 _ hR hgY hg2 rfl)
    generalize f.setCell ⟨w.heap.size, 0, none⟩ (.slice none 0 0) = e0 at HF ⊢
    replace HF : Hid (GS w (e0.setCell ⟨w.heap.size, 1, none⟩ (.slice none 0 0)) R Y g2 g cap #[.slice none 0 0, .slice none 0 0, .slice none 0 0] #[.slice none 0 0, .slice none 0 0, .slice (some ⟨g2, 0, none⟩) 1 cap2]) := Lib.hid (HF.out.set 1 _ hR hgY hg2 rfl)
    generalize e0.setCell ⟨w.heap.size, 1, none⟩ (.slice none 0 0) = e1 at HF ⊢
    replace HF : Hid (GS w (e1.setCell ⟨w.heap.size, 2, none⟩ (.slice (some ⟨g2, 0, none⟩) 1 cap2)) R Y g2 g cap #[.slice none 0 0, .slice none 0 0, .slice (some ⟨g2, 0, none⟩) 1 cap2] #[.slice none 0 0, .slice none 0 0, .slice (some ⟨g2, 0, none⟩) 1 cap2]) := Lib.hid (HF.out.set 2 _ hR hgY hg2 rfl)
    generalize e1.setCell ⟨w.heap.size, 2, none⟩ (.slice (some ⟨g2, 0, none⟩) 1 cap2) = e2 at HF ⊢
    have x0 : e2.cell? ⟨w.heap.size, 0, none⟩ = some (.slice none 0 0) := rowAt_cell HF.out.x 0
    have x1 : e2.cell? ⟨w.heap.size, 1, none⟩ = some (.slice none 0 0) := rowAt_cell HF.out.x 1
    have x2 : e2.cell? ⟨w.heap.size, 2, none⟩ = some (.slice (some ⟨g2, 0, none⟩) 1 cap2) := rowAt_cell HF.out.x 2
    exact bodyPost_ret (v := .agg #[.slice none 0 0, .slice none 0 0, .slice (some ⟨g2, 0, none⟩) 1 cap2]) (by simp [results, Try.results82, go_sem, x0, x1, x2]) rfl ⟨g2, cap2, g, cap, rfl, HF.out.o, HF.out.gr⟩
end Go.Proofs.Ytpiafgmncfibmaa
