import Derived.Laws.BitsLemmas
import Derived.Laws.BitsAllLaws
import Derived.Deep.DrawnRows
import Derived.Test.YtpiafgmncfibmaaRr
import Derived.Test.YtpiafgmncfibmaaRows
import Derived.WalkKit
import Derived.ProofKit
import Derived.OpenShut
import Derived.Deep.QuietTactic
import Derived.BigQuiet
import Derived.Outline
import Derived.WalkSmall
import Derived.WalkLawsBesides
import Derived.WalkSpells
import Derived.BigGuardPart
import Derived.RegionTactic
import Derived.Deep.RegionHeld3
import Derived.Lib.Hide
import Derived.Deep.MidRow
import Derived.Below
import Derived.Deep.RegionWith
import Derived.Deep.OwnRows
import Derived.Deep.AppendLies
import Derived.Deep.RegionLaw
namespace Go.Proofs.Ytpiafgmncfibmaa
open Go.ChangeShapes Go.WideShapes Go.ChangeAt Go.RowKit
set_option linter.unusedVariables false

theorem grown_own {w V V' : World} {r : Option Nat} {R : Nat} (h : w.grownBy V (some R)) (hg : V.grownBy V' r) (hb : ∀ g, r = some g → w.heap.size ≤ g) : w.grownBy V' (some R) :=
  ⟨hg.os.trans h.os, hg.tape.trans h.tape, hg.output.trans h.output, Nat.le_trans h.size hg.size, fun k hk hne => (hg.block k (Nat.lt_of_lt_of_le hk h.size) (fun e => by have := hb k e.symm; omega)).trans (h.block k hk hne)⟩
theorem Rd.alloc {S : Src} {k : Nat} {V : World} (h : Rd S k V) (o : Obj) : Rd S k (V.alloc o) := ⟨h.r.keep (.alloc _ _), h.b.alloc _⟩
theorem Rd.drew {S : Src} {k : Nat} {V : World} (h : Rd S k V) : Rd S k V.drew := ⟨h.r.keep (.drew _), h.b.drew⟩
theorem Rd.grown {S : Src} {k e : Nat} {V V' : World} {r : Option Nat} (h : Rd S k V) (hg : V.grownBy V' r) (ht : ∀ g, r = some g → ∃ (C : Array Value) (f : Nat × Nat), V.heap[g]? = some (.cells C e f)) (he : e ≠ 95) (hb : ∀ g, r = some g → S.W.heap.size ≤ g) : Rd S k V' :=
  ⟨h.r.keep (.grown hg ht he), h.b.grown hg (fun g hg => .inr (hb g hg))⟩
theorem Rd.set {S : Src} {k e b j : Nat} {V : World} {C : Array Value} (h : Rd S k V) (hx : BoxT V b C e) (he : e ≠ 95) (hb : S.W.heap.size ≤ b) (v : Value) : Rd S k (V.setCell ⟨b, j, none⟩ v) :=
  ⟨h.r.keep (.set hx he), h.b.set ⟨b, j, none⟩ v (.inr hb)⟩
theorem Rd.lt {S : Src} {k : Nat} {V : World} (h : Rd S k V) : S.R < V.heap.size := h.r.lt
theorem NxR.pre {S : Src} {x : Option (Nat × Int)} {k : Nat} {Q : Value → World → Prop} {V V1 V' : World} {e : Ending} (h : NxR S x k Q V1 e V') (hg : V.grownBy V1 (some S.R)) : NxR S x k Q V e V' := by
  cases x with
  | some pe => exact h
  | none =>
    obtain ⟨v, h1, h2, h3, h4⟩ := h
    exact ⟨v, h1, h2, h3, grown_trans hg h4 (.inl rfl)⟩
theorem rdx_any (S : Src) (HO : Hid (SrcOk S)) (k : Nat) (w : World) (HR : Hid (Rd S k w)) : Calls Try.prog 121 #[.pointer (some ⟨S.R, 0, none⟩)] w (NxR S (nxE S.n S.d 0 anyB k) (k + 1) (NxV (S.d k)) w) := by
  go_enter Try.func121, Try.ntmps121
  go_wp2_with fail
  refine (nx_any S HO k 0 _ HR).mono ?_
  intro e w' h
  rcases h.two with ⟨p, er, hx, rfl, hb⟩ | ⟨hx, v, rfl, hq, hr, hg⟩
  · exact And.intro rfl (.bad hx.out hb)
  · obtain rfl : v = _ := hq
    have HG := Lib.hid hg
    have HR' := Lib.hid hr
    clear hr hg
    go_wp2
    go_ret
    exact .ok hx.out rfl HR'.out HG.out
theorem rdx_count (S : Src) (HO : Hid (SrcOk S)) (m : Int) (k : Nat) (w : World) (HR : Hid (Rd S k w)) : Calls Try.prog 106 #[.pointer (some ⟨S.R, 0, none⟩), .int .i64 m] w (NxR S (nxE S.n S.d 2 (leB m) k) (k + 1) (NxV (S.d k)) w) := by
  have hmf : ∀ (fn : Fn) (first cap : Array Value) (w : World), (Instr.makeFunc fn first cap).run Try.prog w = .ok (.func fn first cap) w := fun _ _ _ _ => rfl
  go_enter Try.func106, Try.ntmps106
  go_wp2_with fail
  refine (nx_count S HO k 2 _ (Lib.hid (HR.out.alloc _)) w.heap.size m (by simp [go_sem])).mono ?_
  intro e w' h
  rcases (h.pre (grown_alloc w _ _)).two with ⟨p, er, hx, rfl, hb⟩ | ⟨hx, v, rfl, hq, hr, hg⟩
  · exact And.intro rfl (.bad hx.out hb)
  · obtain rfl : v = _ := hq
    have HG := Lib.hid hg
    have HR' := Lib.hid hr
    clear hr hg
    go_wp2
    go_ret
    exact .ok hx.out rfl HR'.out HG.out
/-- A row of one's own that grows while the reader goes on. -/
structure RowR (S : Src) (w : World) (k e s : Nat) (V : Value) (n : Nat) (xs : List Value) (wr : World) : Prop where
  own : wr.ownsRow w.heap.size e s V n xs
  rd : Rd S k wr
  gr : w.grownBy wr (some S.R)
theorem RowR.next {S : Src} {w wr w' : World} {k k' e s n : Nat} {V : Value} {xs : List Value} (h : RowR S w k e s V n xs wr) (hl : S.R < w.heap.size) (hr : Rd S k' w') (hg : wr.grownBy w' (some S.R)) : RowR S w k' e s V n xs w' :=
  ⟨own_blk h.own fun g hg' hlt => hg.block g hlt (fun e => by obtain rfl := Option.some.inj e; have := own_base h.own _ hg'; omega), hr, grown_trans h.gr hg (.inl rfl)⟩
theorem RowR.app {S : Src} {w wr w' : World} {k e s n n' : Nat} {V V' : Value} {xs xs' : List Value} {o : Obj} (h : RowR S w k e s V n xs wr) (ho : SrcOk S) (hw : S.W.heap.size ≤ w.heap.size) (he : e ≠ 95) (hown : w'.ownsRow w.heap.size e s V' n' xs') (hg : (wr.alloc o).grownBy w' V.ownBlock) : RowR S w k e s V' n' xs' w' := by
  have hV := own_keep h.own (.alloc wr o)
  exact ⟨hown, (h.rd.alloc o).grown hg (own_typed hV) he (fun g hg' => Nat.le_trans hw (own_base hV g hg')), grown_own (grown_trans h.gr (grown_alloc wr o (some S.R)) (.inl rfl)) hg (fun g hg' => own_base hV g hg')⟩
def RowV (e s n : Nat) (w : World) (xs : List Value) (v : Value) (w' : World) : Prop := ∃ a c, v = .slice a n c ∧ w'.ownsRow w.heap.size e s (.slice a n c) n xs
theorem els1_snoc (n : Nat) (F : Nat → Value) (y : Value) (hy : F n = y) : els1 n F ++ [y] = els1 (n + 1) F := by rw [els1_succ, hy]
theorem els2_snoc (n : Nat) (F G : Nat → Value) (y z : Value) (hy : F n = y) (hz : G n = z) : els2 n F G ++ [y, z] = els2 (n + 1) F G := by rw [els2_succ, hy, hz]
set_option maxRecDepth 100000 in
set_option maxHeartbeats 2000000 in
theorem rdx_types (S : Src) (HO : Hid (SrcOk S)) (m : Nat) (hm : m ≤ 70000) (k : Nat) (w : World) (HR : Hid (Rd S k w)) :
    Calls Try.prog 123 #[.pointer (some ⟨S.R, 0, none⟩), .int .i64 m] w (NxR S (tysE S.n S.d k m) (k + m) (RowV 3 1 m w (els1 m fun i => .int .i64 (S.d (k + i) : Nat))) w) := by
  obtain ⟨ii, hi, iz0, iz1, iz2⟩ := info_parts info3x
  have HW := Lib.hid HR.out.b.size
  go_enter Try.func123, Try.ntmps123
  go_wp2
  go_loopw [7, 5] (fun ix v wr => ∃ (j : Nat) (V : Value), j ≤ m ∧ ix = .int .i64 j ∧ V = v ∧ Hid (tysE S.n S.d k j = none ∧ RowR S w (k + j) 3 1 V j (els1 j fun i => .int .i64 (S.d (k + i) : Nat)) wr)) (fun ix _ _ => m - (intOf ix).toNat)
  case atStart => exact ⟨0, _, by omega, rfl, rfl, Lib.hid ⟨rfl, ⟨rfl, .inl ⟨rfl, rfl⟩⟩, HR.out, grown_refl _ _⟩⟩
  case round =>
    obtain ⟨j, V, hj, rfl, rfl, HQ⟩ := hrel
    by_cases hjm : j < m
    · have gj : (j : Int) < m := by omega
      go_wp2_with fail
      refine (nx_type S HO (k + j) 5 _ (Lib.hid HQ.out.2.rd)).mono ?_
      intro e w1 h
      rcases h.two with ⟨p, er, hx, rfl, hb⟩ | ⟨hx, v, rfl, hq, hr, hg⟩
      · exact And.intro rfl (.bad (firE_at HQ.out.1 hx.out hjm) hb)
      · obtain rfl : v = _ := hq
        have HQ1 : Hid (RowR S w (k + j + 1) 3 1 V j (els1 j fun i => .int .i64 (S.d (k + i) : Nat)) w1) := Lib.hid (HQ.out.2.next HR.out.lt hr hg)
        have HOw := Lib.hid (own_keep HQ1.out.own (.alloc w1 (.cells #[.int .i64 (S.d (k + j) : Nat)] 3)))
        have hsz : w.heap.size ≤ w1.heap.size := HQ1.out.gr.size
        clear hr hg h
        go_wp2_with (at_builtin; refine wpList_append_lies _ rfl _ _ 48 rfl w.heap.size 3 ii _ 1 8 Try.underlying48 hi iz0 iz1 iz2 rfl (by decide) V j (els1 j fun i => .int .i64 (S.d (k + i) : Nat)) rfl HOw.out ⟨w1.heap.size, 0, none⟩ 1 1 [.int .i64 (S.d (k + j) : Nat)] rfl rfl (World.news_of_block (cs := #[.int .i64 (S.d (k + j) : Nat)]) (t := 3) (fr := (0, 0)) (heap_alloc_new w1 _)) (by simp [Value.oneCell']) (by omega) (by unfold maxLen; omega) (by omega) (by simp; omega) (w1.heap.size + 1) (by simp) ?_; intro g cap w2 hown hgrow _ _)
        exact ⟨⟨j + 1, _, by omega, by go_num, rfl, Lib.hid ⟨firE_succ HQ.out.1 hx.out, by have := HQ1.out.app HO.out HW.out (by decide) hown hgrow; rw [els1_snoc _ _ _ rfl] at this; exact this⟩⟩, by simp [intOf]; omega⟩
    · obtain rfl : m = j := by omega
      go_wp2
      go_ret
      obtain ⟨a, c, hv⟩ := own_slice HQ.out.2.own
      exact .ok HQ.out.1 ⟨a, c, hv, hv ▸ HQ.out.2.own⟩ HQ.out.2.rd HQ.out.2.gr
end Go.Proofs.Ytpiafgmncfibmaa
