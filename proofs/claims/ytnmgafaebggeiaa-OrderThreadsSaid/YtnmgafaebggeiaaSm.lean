import Derived.Test.YtnmgafaebggeiaaSk
import Derived.Test.YtnmgafaebggeiaaSs
namespace Go.Proofs.Ytnmgafaebggeiaa.St
open Go.ChangeShapes Go.WideShapes Go.ChangeAt Go.RowKit Go.Maps
set_option linter.unusedVariables false
/-! ### The sort, by the shelf's contract -/
theorem lt_tm {α : Type} (f : α → Int) (x y : α) : ltOf (fun x y => Lib.compareInt (f x) (f y)) x y = decide (f x < f y) := by
  unfold ltOf Lib.compareInt
  by_cases h1 : f x < f y
  · simp [h1]
  · by_cases h2 : f y < f x
    · simp [h1, h2]
    · simp [h1, h2]
theorem swo_tm {α : Type} (f : α → Int) : Sort.SWO (ltOf (fun x y => Lib.compareInt (f x) (f y))) where
  irrefl x := by rw [lt_tm]; simp
  trans x y z h1 h2 := by rw [lt_tm] at *; simp at *; omega
  ntrans x y z h1 h2 := by rw [lt_tm] at *; simp at *; omega
theorem putCells_row {α : Type} [Inhabited α] (enc : α → Value) (d : Array α) (c : Array Value) (h : d.size ≤ c.size) : (Sort.putCells enc 0 d c).size = c.size ∧ (Sort.putCells enc 0 d c).toList.take d.size = d.toList.map enc := by
  refine ⟨by simp [Sort.putCells], ?_⟩
  apply List.ext_getElem?
  intro j
  rw [List.getElem?_take, List.getElem?_map]
  by_cases hj : j < d.size
  · rw [if_pos hj]
    have hc : j < c.size := by omega
    simp [Sort.putCells, hc, hj]
  · rw [if_neg hj]
    rw [List.getElem?_eq_none (by simpa using hj)]
    rfl
theorem sortWorld_heap {α : Type} [Inhabited α] (enc : α → Value) (W : World) (g m : Nat) (d : Array α) (os : Array Obj) (k : Nat) (hk : k < W.heap.size) (hne : k ≠ g) : (sortWorld enc W g 0 m d os).heap[k]? = W.heap[k]? := by
  unfold sortWorld Sort.grow Sort.putRow Sort.mapBlock Sort.ahead
  show (W.heap.modify g _ ++ os)[k]? = _
  rw [Array.getElem?_append_left (by simpa using hk), Array.getElem?_modify, if_neg (fun e => hne e.symm)]
theorem sortWorld_row {α : Type} [Inhabited α] (enc : α → Value) (W : World) (g m : Nat) (d : Array α) (os : Array Obj) {cur : Array Value} {t : TypeId} (hg : W.heap[g]? = some (.cells cur t (0, 0))) : (sortWorld enc W g 0 m d os).heap[g]? = some (.cells (Sort.putCells enc 0 d cur) t (0, 0)) := by
  have hl : g < W.heap.size := (Array.getElem?_eq_some_iff.1 hg).1
  unfold sortWorld Sort.grow Sort.putRow Sort.mapBlock Sort.ahead
  show (W.heap.modify g _ ++ os)[g]? = _
  rw [Array.getElem?_append_left (by simpa using hl), Array.getElem?_modify, if_pos rfl, hg]
  rfl
theorem sortWorld_cell {α : Type} [Inhabited α] (enc : α → Value) (W : World) (g m : Nat) (d : Array α) (os : Array Obj) (b q : Nat) (hk : b < W.heap.size) (hne : b ≠ g) : (sortWorld enc W g 0 m d os).cell? ⟨b, q, none⟩ = W.cell? ⟨b, q, none⟩ := by
  unfold World.cell?
  rw [sortWorld_heap enc W g m d os b hk hne]
theorem own_max {w : World} {b n cap size : Nat} {e : TypeId} {a : Option Addr} {xs : List Value} (h : w.ownsRow b e size (.slice a n cap) n xs) (h0 : 0 < n) : cap ≤ maxLen := by
  rcases h.2 with ⟨h1, h2⟩ | ⟨g', cap', cur, hv, _, _, _, hm, _⟩
  · omega
  · injection hv with e1 e2 e3
    rw [e3]
    exact hm
theorem sort_law : SortLaw := by
  intro W P F S c base n v l hS hc hcl ho hps hcb heb hl hl9
  have hn : n = l.length := by have := ho.1; rw [Nat.mul_one] at this; simpa [intL] using this.symm
  subst hn
  by_cases h0 : l = []
  · subst h0
    obtain ⟨a, cap, rfl, _⟩ := own_form ho
    refine (AnyF.slices_SortFunc_none Try.laysSlF06_f31 a cap _ W).mono fun e W' ⟨he, hw⟩ => ?_
    subst hw
    exact ⟨he, [], List.Perm.refl _, List.Pairwise.nil, ho, ⟨rfl, rfl, rfl, Nat.le_refl _, fun _ _ _ => rfl⟩⟩
  · have hpos : 0 < l.length := List.length_pos_iff.2 h0
    obtain ⟨g, cap, rfl, hbg, hgl⟩ := own_pos ho hpos
    have hN : 0 < F.N := by
      obtain ⟨x, hx⟩ := List.exists_mem_of_length_pos hpos
      have := hl x hx
      omega
    letI : Inhabited (Fin F.N) := ⟨⟨0, hN⟩⟩
    obtain ⟨d, hd⟩ : ∃ d : Array (Fin F.N), d.toList.map Fin.val = l := ⟨(l.pmap (fun i h => (⟨i, h⟩ : Fin F.N)) hl).toArray, by simp [List.map_pmap]⟩
    have hdz : d.size = l.length := by rw [← hd]; simp
    have hds : d.size ≤ l.length := by omega
    have htm : ∀ i, i < F.N → W.cell? ⟨P.eb, P.eo + i * 9 + 8, none⟩ = some (.int .i64 (F.tm i)) := fun i hi => (hS.ev i hi).2.c8
    have hev : W.cell? ⟨P.s, 0, none⟩ = some (.slice (some ⟨P.eb, P.eo, none⟩) F.N P.ec) := (hS.ev 0 hN).1 ▸ hS.cell (j := 0) (by omega)
    have hcmp : CmpLays1 Try.prog 32 #[.pointer (some ⟨c, 0, none⟩)] (fun i : Fin F.N => .int .i64 (i.val : Nat)) (fun x y => Lib.compareInt (F.tm x.val) (F.tm y.val)) g 0 d.size W :=
      CmpReads.lays fun m os dk hdk x y => clo_c ((sortWorld_cell _ W g m dk os c 0 hcl (by omega)).trans hc) ((sortWorld_cell _ W g m dk os P.s 0 hS.sl (by omega)).trans hev) x.isLt y.isLt
        ((sortWorld_cell _ W g m dk os P.eb _ hS.el (by omega)).trans (htm x.val x.isLt)) ((sortWorld_cell _ W g m dk os P.eb _ hS.el (by omega)).trans (htm y.val y.isLt))
    have hel : ∀ j (hj : j < d.size), l[j]? = some (d[j]!).val := fun j hj => by
      rw [← hd, List.getElem?_map, Array.getElem?_toList, getElem!_pos d j hj, Array.getElem?_eq_getElem hj]
      rfl
    have hH : Sort.Holds (fun i : Fin F.N => Value.int .i64 (i.val : Nat)) W g 0 d := fun j hj => by
      obtain ⟨q1, q2⟩ := own_cells ho
      rw [Nat.zero_add]
      refine ⟨q1 j _ ?_, q2 j⟩
      unfold intL
      rw [List.getElem?_map, hel j hj]
      rfl
    have eg : ∀ args w, (callFunc 32 args).run Try.prog w = .ok (.enter 32 args) w := enters_of Try.func32 (by kernel_rfl) rfl
    have hrun := Any.slices_SortFunc Try.laysSlF6_f31 (fun i : Fin F.N => Value.int .i64 (i.val : Nat)) (fun _ => rfl) (fun x y => Lib.compareInt (F.tm x.val) (F.tm y.val)) (swo_tm fun x : Fin F.N => F.tm x.val) 32 #[.pointer (some ⟨c, 0, none⟩)] g 0 cap d W eg hcmp hH hgl (by omega)
    rw [hdz] at hrun
    refine (show Calls Try.prog 31 _ _ _ from hrun).mono fun e W' ⟨he, d', m, os, hp, hs, hw⟩ => ?_
    subst hw
    have hd's : d'.size = l.length := hp.1.trans hdz
    have hperm : d'.toList.Perm d.toList := by
      have := hp.2.2
      rwa [show d'.extract 0 l.length = d' by rw [← hd's]; exact Array.extract_size, show d.extract 0 l.length = d by rw [← hdz]; exact Array.extract_size] at this
    refine ⟨he, d'.toList.map Fin.val, by rw [← hd]; exact hperm.map _, ?_, ?_, ?_⟩
    · rw [List.pairwise_iff_getElem]
      intro i j hi hj hij
      simp only [List.length_map, Array.length_toList] at hi hj
      have := hs i j (Nat.zero_le _) hij (by omega)
      rw [lt_tm, getElem!_pos d' i hi, getElem!_pos d' j hj] at this
      simpa using this
    · rcases ho.2 with ⟨h1, _⟩ | ⟨g', cap', cur, hv, hb, hg, hcp, hm, hsz, ht⟩
      · cases h1
      · injection hv with e1 e2 e3
        injection e1 with e1
        injection e1 with e1
        subst e1 e3
        obtain ⟨p1, p2⟩ := putCells_row (fun i : Fin F.N => Value.int .i64 (i.val : Nat)) d' cur (by rw [hd's, hsz]; omega)
        refine ⟨by simp [intL, hd's], .inr ⟨g, cap, _, rfl, hb, sortWorld_row _ W g m d' os hg, hcp, hm, p1.trans hsz, ?_⟩⟩
        rw [Nat.mul_one, ← hd's, p2]
        unfold intL
        rw [List.map_map]
        rfl
    · exact ⟨rfl, rfl, rfl, by simp [sortWorld, Sort.grow, Sort.putRow, Sort.mapBlock, Sort.ahead], fun k hk hne => sortWorld_heap _ W g m d' os k hk fun e => hne (by rw [e]; rfl)⟩
end Go.Proofs.Ytnmgafaebggeiaa.St
