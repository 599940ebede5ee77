import Derived.Test.YtpiafgmncfibmaaPg
import Derived.Test.YtpiafgmncfibmaaRk
import Derived.Test.YtpiafgmncfibmaaRows
import Derived.WalkKit
import Derived.ProofKit
import Derived.OpenShut
import Derived.Deep.QuietTactic
import Derived.BigQuiet
import Derived.Outline
import Derived.WalkSmall
import Derived.WalkLawsBesides
import Derived.WalkSpells
import Derived.BigGuardPart
import Derived.RegionTactic
import Derived.Deep.RegionHeld3
import Derived.Lib.Hide
import Derived.Deep.MidRow
import Derived.Below
import Derived.Deep.RegionWith
import Derived.Deep.OwnRows
import Derived.Deep.AppendLies
namespace Go.Proofs.Ytpiafgmncfibmaa
open Go.ChangeShapes Go.WideShapes Go.ChangeAt Go.RowKit
set_option linter.unusedVariables false

/-- A row of bytes of one's own. -/
def LB (B : Nat) (w : World) (g n cap : Nat) (xs : List Int) : Prop := xs.length = n ∧ w.ownsRow B 5 1 (.slice (some ⟨g, 0, none⟩) n cap) n (xs.map fun x => .int .u8 x)
theorem LB.lt {B : Nat} {w : World} {g n cap : Nat} {xs : List Int} (h : LB B w g n cap xs) : B ≤ g ∧ g < w.heap.size := by
  rcases h.2.2 with ⟨h1, _⟩ | ⟨g', c', cur, hv, hb, hg, _⟩
  · cases h1
  · injection hv with h1 h2 h3
    injection h1 with h1
    injection h1 with h1
    subst h1
    exact ⟨hb, (Array.getElem?_eq_some_iff.1 hg).1⟩
theorem LB.cell {B : Nat} {w : World} {g n cap : Nat} {xs : List Int} (h : LB B w g n cap xs) {j : Nat} {x : Int} (hj : xs[j]? = some x) : w.cell? ⟨g, j, none⟩ = some (.int .u8 x) := by
  obtain ⟨hl, h⟩ := h
  rcases h.2 with ⟨h1, _⟩ | ⟨g', c', cur, hv, hb, hg, hn, hm, hs, ht⟩
  · cases h1
  · injection hv with h1 h2 h3
    injection h1 with h1
    injection h1 with h1
    subst h1
    rw [cell_of_row w g j cur 5 _ hg]
    have hu : (xs.map fun x => (Value.int .u8 x))[j]? = some (.int .u8 x) := by rw [List.getElem?_map, hj]; rfl
    rw [← ht] at hu
    rw [List.getElem?_take] at hu
    split at hu
    · simpa using hu
    · cases hu
theorem LB.cap {B : Nat} {w : World} {g n cap : Nat} {xs : List Int} (h : LB B w g n cap xs) : n ≤ cap := by
  rcases h.2.2 with ⟨h1, _⟩ | ⟨g', c', cur, hv, hb, hg, hn, _⟩
  · cases h1
  · injection hv with h1 h2 h3
    subst h3
    exact hn
theorem LB.of_block {B : Nat} {w w' : World} {g n cap : Nat} {xs : List Int} (h : LB B w g n cap xs) (e : w'.heap[g]? = w.heap[g]?) : LB B w' g n cap xs := by
  refine ⟨h.1, h.2.1, ?_⟩
  rcases h.2.2 with h1 | ⟨g', c', cur, hv, hb, hg, r⟩
  · exact .inl h1
  · refine .inr ⟨g', c', cur, hv, hb, ?_, r⟩
    injection hv with h1 h2 h3
    injection h1 with h1
    injection h1 with h1
    subst h1
    rw [e]
    exact hg
theorem LB.alloc {B : Nat} {w : World} {g n cap : Nat} {xs : List Int} (h : LB B w g n cap xs) (o : Obj) : LB B (w.alloc o) g n cap xs := h.of_block (heap_alloc_old w o h.lt.2)
theorem LB.below {B : Nat} {w W w' : World} {g n cap : Nat} {xs : List Int} (h : LB B w g n cap xs) (hb : Below W.heap.size W w') (he : W.heap = w.heap) : LB B w' g n cap xs := h.of_block (by rw [hb.block g (by rw [he]; exact h.lt.2), he])
theorem grown_alloc (w : World) (o : Obj) (r : Option Nat) : w.grownBy (w.alloc o) r := ⟨rfl, rfl, rfl, by simp, fun k hk _ => heap_alloc_old w o hk⟩
theorem grown_trans {w w1 w2 : World} {g g' : Nat} (h1 : w.grownBy w1 (some g)) (h2 : w1.grownBy w2 (some g')) (hg : g' = g ∨ w.heap.size ≤ g') : w.grownBy w2 (some g) :=
  ⟨h2.os.trans h1.os, h2.tape.trans h1.tape, h2.output.trans h1.output, Nat.le_trans h1.size h2.size, fun k hk hne => by
    refine (h2.block k (Nat.lt_of_lt_of_le hk h1.size) (fun e => ?_)).trans (h1.block k hk hne)
    injection e with e
    rcases hg with hg | hg
    · exact hne (by rw [e, hg])
    · omega⟩
theorem grown_refl (w : World) (r : Option Nat) : w.grownBy w r := ⟨rfl, rfl, rfl, Nat.le_refl _, fun _ _ _ => rfl⟩
theorem grown_of_below {w w' : World} (h : Below w.heap.size w w') (r : Option Nat) : w.grownBy w' r := ⟨h.os, h.tape, h.output, h.size, fun k hk _ => h.block k hk⟩
theorem info5 : (Try.prog.info? 5).map (fun i => (i.zero, i.size, i.bytes)) = some (some (.int .u8 0), 1, 1) := by kernel_rfl
/-- Bytes are appended. -/
theorem app_b {ops : Array Oper} {rest : List Oper} {o : Oper} {a : Act} {w : World} {Q : Exit → Act → World → Prop} (hgd : o.guard = none) (s x : Operand)
    (ho : o.op = .call { callee := .builtin .append, args := #[s, x], argTypes := #[29, 29] }) (w0 : World) (g n cap : Nat) (xs : List Int) (hs : a.eval s = .slice (some ⟨g, 0, none⟩) n cap)
    (hl : LB w0.heap.size w g n cap xs) (be : Below w0.heap.size w0 w) (ad : Addr) (m c : Nat) (news : List Int) (hx : a.eval x = .slice (some ad) m c) (hn : news.length = m)
    (hc : ∀ j u, news[j]? = some u → w.cell? (ad.add j) = some (.int .u8 u)) (hm : 0 < m) (hbig : n + m ≤ 140737488355328)
    (h : ∀ g' cap' w', LB w0.heap.size w' g' (n + m) cap' (xs ++ news) → Below w0.heap.size w0 w' → w.grownBy w' (some g) → (g' = g ∨ w.heap.size ≤ g') → wpList Try.prog ops Q rest (a.put o.dst (.slice (some ⟨g', 0, none⟩) (n + m) cap')) w') :
    wpList Try.prog ops Q (o :: rest) a w := by
  obtain ⟨i0, hi, hz0, hz1, hz2⟩ := info_parts info5
  refine wpList_append_lies _ hgd s x 29 ho w0.heap.size 5 i0 (.int .u8 0) 1 1 Try.underlying29 hi hz0 hz1 hz2 rfl (by omega) _ n (xs.map fun x => .int .u8 x) hs hl.2 ad m c (news.map fun x => .int .u8 x) hx (by rw [List.length_map, hn, Nat.mul_one])
    (fun j u hu => ?_) (fun u hu => ?_) hm (by unfold maxLen; omega) (by rw [Nat.mul_one]; exact hbig) be.size _ rfl ?_
  · rw [List.getElem?_map] at hu
    cases hj : news[j]? with
    | none => rw [hj, Option.map_none] at hu; exact absurd hu (by simp)
    | some y =>
      rw [hj, Option.map_some] at hu
      obtain rfl := Option.some.inj hu
      exact hc j y hj
  · obtain ⟨y, _, rfl⟩ := List.mem_map.1 hu
    rfl
  · intro g' cap' w' hown hgr hg' hlt
    rw [← List.map_append] at hown
    have hgg : g' = g ∨ w.heap.size ≤ g' := by
      rcases hg' with e | e
      · injection e with e; exact .inl e.symm
      · exact .inr (Nat.le_of_eq e.symm)
    exact h g' cap' w' ⟨by rw [List.length_append, hl.1, hn], hown⟩ (grown_below be hgr hl.lt.1) hgr hgg
theorem cells1 (w : World) (a : Value) (e : TypeId) : (w.alloc (.cells #[a] e)).cell? ((⟨w.heap.size, 0, none⟩ : Addr).add 0) = some a := by
  have hs : (w.alloc (.cells #[a] e)).heap[w.heap.size]? = some (.cells #[a] e (0, 0)) := heap_alloc_new w _
  have ha : (⟨w.heap.size, 0, none⟩ : Addr).add 0 = ⟨w.heap.size, 0, none⟩ := by unfold Addr.add; split <;> simp_all
  rw [ha]
  unfold World.cell?
  simp only [hs]
  rfl
/-- One byte is appended that has just been laid. -/
theorem app_1 {ops : Array Oper} {rest : List Oper} {o : Oper} {a : Act} {w : World} {Q : Exit → Act → World → Prop} (hgd : o.guard = none) (s x : Operand)
    (ho : o.op = .call { callee := .builtin .append, args := #[s, x], argTypes := #[29, 29] }) (w0 : World) (g n cap : Nat) (xs : List Int) (y : Int) (hs : a.eval s = .slice (some ⟨g, 0, none⟩) n cap)
    (hl : LB w0.heap.size w g n cap xs) (be : Below w0.heap.size w0 w) (H : Nat) (hx : a.eval x = .slice (some ⟨H, 0, none⟩) 1 1) (hH : w.heap.size = H) (hbig : n + 1 ≤ 140737488355328)
    (h : ∀ g' cap' w', LB w0.heap.size w' g' (n + 1) cap' (xs ++ [y]) → Below w0.heap.size w0 w' → w.grownBy w' (some g) → (g' = g ∨ w.heap.size ≤ g') → wpList Try.prog ops Q rest (a.put o.dst (.slice (some ⟨g', 0, none⟩) (n + 1) cap')) w') :
    wpList Try.prog ops Q (o :: rest) a (w.alloc (.cells #[.int .u8 y] 5)) := by
  subst hH
  refine app_b hgd s x ho w0 g n cap xs hs (hl.alloc _) (be.alloc be.size _) ⟨w.heap.size, 0, none⟩ 1 1 [y] hx rfl (fun j u hu => ?_) (by omega) hbig ?_
  · have hj : j = 0 := by
      have := (List.getElem?_eq_some_iff.1 hu).1
      simp at this; omega
    subst hj
    simp at hu
    subst hu
    exact cells1 _ _ _
  · intro g' cap' w' h1 h2 h3 h4
    refine h g' cap' w' h1 h2 (grown_trans (grown_alloc w _ _) h3 (.inl rfl)) ?_
    rcases h4 with h4 | h4
    · exact .inl h4
    · exact .inr (by simp at h4; omega)
end Go.Proofs.Ytpiafgmncfibmaa
