import Derived.Test.YtjcbhomfggjmhaaMc
import Derived.Laws.IdiomCopy
import Derived.Laws.CopyOwn
namespace Go.Proofs.Ytjcbhomfggjmhaa.Mm
open Go.ChangeShapes Go.WideShapes Go.ChangeAt Go.RowKit
set_option linter.unusedVariables false
theorem own_byte {w : World} {B g n cap : Nat} {y : Nat → Nat} (h : w.ownsRow B 5 1 (.slice (some ⟨g, 0, none⟩) n cap) n (byL y n)) (q : Nat) (hq : q < n) (c : Nat) :
    (w.setCell ⟨g, q, none⟩ (.int .u8 (c : Nat))).ownsRow B 5 1 (.slice (some ⟨g, 0, none⟩) n cap) n (byL (fun i => if i = q then c else y i) n) := by
  refine ⟨by unfold byL; simp, ?_⟩
  rcases h.2 with ⟨h1, _⟩ | ⟨g', cap', cur, hv, hb, hg, hc, hm, hs, ht⟩
  · cases h1
  · injection hv with e1 e2 e3
    injection e1 with e1
    injection e1 with e1
    subst e1 e3
    refine .inr ⟨g, cap, cur.setIfInBounds q (.int .u8 (c : Nat)), rfl, hb, ?_, hc, hm, by simpa using hs, ?_⟩
    · rw [setCell_eq_setRow w g q cur 5 (0, 0) _ hg]
      exact setRow_heap _ _ _ _ _ _ hg
    · apply List.ext_getElem?
      intro i
      by_cases hi : i < n
      · have hF : (byL y n)[i]? = cur[i]? := by
          rw [← ht, List.getElem?_take, if_pos (by omega), Array.getElem?_toList]
        rw [List.getElem?_take, if_pos (by omega), Array.getElem?_toList, Array.getElem?_setIfInBounds, byL_at _ _ _ hi]
        by_cases e : q = i
        · subst e
          rw [if_pos rfl, if_pos (by omega), if_pos rfl]
        · rw [if_neg e, ← hF, byL_at _ _ _ hi, if_neg (fun e' => e e'.symm)]
      · rw [List.getElem?_eq_none (by rw [List.length_take]; omega), List.getElem?_eq_none (by unfold byL; simp; omega)]
/-- One byte is another. -/
def Me.put1 (M : Me) (k q c : Nat) : Me := { M with y := fun k' i => if k' = k ∧ i = q then c else M.y k' i }
/-- Bytes from a place on are others. -/
def Me.ld (M : Me) (k o : Nat) : List Nat → Me
  | [] => M
  | c :: l => (M.put1 k o c).ld k (o + 1) l
theorem ld_snoc (k : Nat) (c : Nat) : ∀ (l : List Nat) (M : Me) (o : Nat), M.ld k o (l ++ [c]) = (M.ld k o l).put1 k (o + l.length) c
  | [], M, o => rfl
  | d :: l, M, o => by
    show (M.put1 k o d).ld k (o + 1) (l ++ [c]) = ((M.put1 k o d).ld k (o + 1) l).put1 k (o + (l.length + 1)) c
    rw [ld_snoc k c l, show o + 1 + l.length = o + (l.length + 1) by omega]
theorem ld_same (k : Nat) : ∀ (l : List Nat) (M : Me) (o : Nat), (M.ld k o l).n = M.n ∧ (M.ld k o l).A = M.A ∧ (M.ld k o l).S = M.S ∧ (M.ld k o l).W = M.W ∧ (M.ld k o l).X = M.X
  | [], M, o => ⟨rfl, rfl, rfl, rfl, rfl⟩
  | c :: l, M, o => ld_same k l (M.put1 k o c) (o + 1)
theorem MeOk.put1 {M : Me} (h : MeOk M) (k q c : Nat) (hc : c < 256) : MeOk (M.put1 k q c) :=
  ⟨h.n16, h.sz, h.ord, fun k' o => by
    show (if k' = k ∧ o = q then c else M.y k' o) < 256
    split
    · exact hc
    · exact h.byt k' o⟩
theorem arL_put1 (M : Me) (B C : Nat → Nat) (k q c : Nat) (n : Nat) : arL (M.put1 k q c) B C n = arL M B C n := arL_congr _ _ _ _ _ _ n fun j _ => rfl
section
variable {tm ta : TypeId} {w : World} {FP : Nat → Prop} {p : Nat} {M : Me} {v : Value} {B C : Nat → Nat}
theorem MeC.bp (h : MeC tm ta w FP p M v B C) (ht : tm ≠ 5) {k : Nat} (hk : k < M.n) : B k ≠ p := fun e => by
  obtain ⟨cur, hc⟩ := own_heap (h.byt k hk) (g := B k) rfl
  rw [e, h.row] at hc
  injection hc with hc
  injection hc with _ hc
  exact ht hc
theorem MeC.bv (h : MeC tm ta w FP p M v B C) (ht : ta ≠ 5) {k : Nat} (hk : k < M.n) {g : Nat} (hg : v.ownBlock = some g) : g ≠ B k := fun e => by
  obtain ⟨cur, hc⟩ := own_heap (h.byt k hk) (g := B k) rfl
  obtain ⟨cur', hc'⟩ := own_heap h.ars hg
  rw [e, hc] at hc'
  injection hc' with hc'
  injection hc' with _ hc'
  exact ht hc'.symm
theorem MeC.put1 (h : MeC tm ta w FP p M v B C) (ht : tm ≠ 5) (ht2 : ta ≠ 5) {k q c : Nat} (hk : k < M.n) (hq : q < M.S k) (hc : c < 256) :
    MeC tm ta (w.setCell ⟨B k, q, none⟩ (.int .u8 (c : Nat))) FP p (M.put1 k q c) v B C := by
  have hne : ∀ g, g ≠ B k → (w.setCell ⟨B k, q, none⟩ (.int .u8 (c : Nat))).heap[g]? = w.heap[g]? := fun g hg => Below.heap_setCell _ _ _ _ hg
  refine ⟨(hne p (fun e => h.bp ht hk e.symm)).trans h.row, ?_, fun k' hk' => ?_, h.inj, h.fp, h.fv, h.fb, fun g hg => by simpa using h.fl g hg, h.ok.put1 k q c hc⟩
  · show (w.setCell ⟨B k, q, none⟩ (.int .u8 (c : Nat))).ownsRow 0 ta 5 v M.n (arL (M.put1 k q c) B C M.n)
    rw [arL_put1]
    exact own_kept h.ars fun g hg => hne g (h.bv ht2 hk hg)
  · by_cases e : k' = k
    · subst e
      have := own_byte (h.byt k' hk) q hq c
      have hy : byL ((M.put1 k' q c).y k') (M.S k') = byL (fun i => if i = q then c else M.y k' i) (M.S k') := by
        show byL (fun i => if k' = k' ∧ i = q then c else M.y k' i) (M.S k') = _
        simp
      show (w.setCell ⟨B k', q, none⟩ (.int .u8 (c : Nat))).ownsRow 0 5 1 (.slice (some ⟨B k', 0, none⟩) (M.S k') (C k')) (M.S k') (byL ((M.put1 k' q c).y k') (M.S k'))
      rw [hy]
      exact this
    · have hy : byL ((M.put1 k q c).y k') (M.S k') = byL (M.y k') (M.S k') := by
        show byL (fun i => if k' = k ∧ i = q then c else M.y k' i) (M.S k') = _
        simp [e]
      show (w.setCell ⟨B k, q, none⟩ (.int .u8 (c : Nat))).ownsRow 0 5 1 (.slice (some ⟨B k', 0, none⟩) (M.S k') (C k')) (M.S k') (byL ((M.put1 k q c).y k') (M.S k'))
      rw [hy]
      exact own_kept (h.byt k' hk') fun g hg => hne g (by injection hg with hg; subst hg; exact fun e2 => e (h.inj _ _ hk' hk e2))
theorem MeC.lds (ht : tm ≠ 5) (ht2 : ta ≠ 5) {k : Nat} : ∀ (l : List Nat) (o : Nat) (w : World) (M : Me), MeC tm ta w FP p M v B C → k < M.n → o + l.length ≤ M.S k → (∀ c ∈ l, c < 256) →
    MeC tm ta (w.setCells (B k) o (l.map fun c => .int .u8 (c : Nat))) FP p (M.ld k o l) v B C
  | [], o, w, M, h, _, _, _ => h
  | c :: l, o, w, M, h, hk, ho, hl => by
    have h1 := h.put1 ht ht2 hk (q := o) (c := c) (by simp at ho; omega) (hl c (by simp))
    exact MeC.lds ht ht2 l (o + 1) _ _ h1 hk (by simp at ho; show o + 1 + l.length ≤ M.S k; omega) fun c' hc' => hl c' (by simp [hc'])
end
theorem setCells_grown : ∀ (l : List Value) (k : Nat) (w : World) (b : Nat), w.grownBy (w.setCells b k l) (some b)
  | [], _, _, _ => ⟨rfl, rfl, rfl, Nat.le_refl _, fun _ _ _ => rfl⟩
  | v :: l, k, w, b => by
    have h1 : w.grownBy (w.setCell ⟨b, k, none⟩ v) (some b) := ⟨rfl, rfl, rfl, by simp [World.setCell], fun k' hk hne => Below.heap_setCell _ _ _ _ (fun e => hne (by rw [e]))⟩
    have h2 := setCells_grown l (k + 1) (w.setCell ⟨b, k, none⟩ v) b
    exact ⟨h2.os.trans h1.os, h2.tape.trans h1.tape, h2.output.trans h1.output, Nat.le_trans h1.size h2.size, fun i hi hne => (h2.block i (Nat.lt_of_lt_of_le hi h1.size) hne).trans (h1.block i hi hne)⟩
/-- What a change of some blocks leaves as it is. -/
structure Kp (FP : Nat → Prop) (w w' : World) : Prop where
  os : w'.os = w.os
  tape : w'.tape = w.tape
  output : w'.output = w.output
  size : w.heap.size ≤ w'.heap.size
  block : ∀ k, k < w.heap.size → ¬ FP k → w'.heap[k]? = w.heap[k]?
theorem Kp.refl (FP : Nat → Prop) (w : World) : Kp FP w w := ⟨rfl, rfl, rfl, Nat.le_refl _, fun _ _ _ => rfl⟩
theorem Kp.trans {FP FP' : Nat → Prop} {w w' w'' : World} (h : Kp FP w w') (h' : Kp FP' w' w'') (hs : ∀ k, FP' k → FP k ∨ w.heap.size ≤ k) : Kp FP w w'' :=
  ⟨h'.os.trans h.os, h'.tape.trans h.tape, h'.output.trans h.output, Nat.le_trans h.size h'.size, fun k hk hn => (h'.block k (Nat.lt_of_lt_of_le hk h.size) (fun hf => by
    rcases hs k hf with h1 | h1
    · exact hn h1
    · omega)).trans (h.block k hk hn)⟩
theorem Kp.of_below {FP : Nat → Prop} {w w' : World} (h : Below w.heap.size w w') : Kp FP w w' := ⟨h.os, h.tape, h.output, h.size, fun k hk _ => h.block k hk⟩
theorem Kp.of_grown {FP : Nat → Prop} {w w' : World} {r : Option Nat} (h : w.grownBy w' r) (hr : ∀ b, r = some b → FP b) : Kp FP w w' := ⟨h.os, h.tape, h.output, h.size, fun k hk hn => h.block k hk (fun e => hn (hr k e.symm))⟩
theorem Kp.below {FP : Nat → Prop} {w w' : World} {B : Nat} (h : Kp FP w w') (hB : B ≤ w.heap.size) (hf : ∀ k, FP k → B ≤ k) : Below B w w' := ⟨h.os, h.tape, h.output, h.size, fun k hk => h.block k (by omega) (fun e => by have := hf k e; omega)⟩
theorem Kp.mono {FP FP' : Nat → Prop} {w w' : World} (h : Kp FP w w') (hs : ∀ k, FP k → FP' k) : Kp FP' w w' := ⟨h.os, h.tape, h.output, h.size, fun k hk hn => h.block k hk (fun e => hn (hs k e))⟩
theorem kp_set {FP : Nat → Prop} (w : World) (b q : Nat) (u : Value) (hb : FP b) : Kp FP w (w.setCell ⟨b, q, none⟩ u) :=
  ⟨rfl, rfl, rfl, by simp, fun k _ hn => Below.heap_setCell _ _ _ _ (fun e => hn (by rw [e]; exact hb))⟩
/-- The bytes of a number. -/
def byteOf (u j : Nat) : Nat := u / 2 ^ (8 * j) % 256
theorem byteOf_cast (v j : Nat) : ((byteOf v j : Nat) : Int) = (v : Int) / 2 ^ (8 * j) % 256 := by unfold byteOf; rw [Int.natCast_emod, Int.natCast_ediv, Int.natCast_pow]; rfl
def byts (u : Nat) : Nat → List Nat
  | 0 => []
  | j + 1 => byts u j ++ [byteOf u j]
theorem byts_len (u : Nat) : ∀ j, (byts u j).length = j
  | 0 => rfl
  | j + 1 => by unfold byts; rw [List.length_append, byts_len u j]; rfl
section
variable {w : World} {FP : Nat → Prop} {p : Nat} {M : Me} {v : Value} {B C : Nat → Nat}
set_option maxRecDepth 100000 in
set_option maxHeartbeats 4000000 in
theorem write_y (h : MeC 64 67 w FP p M v B C) {x k o u : Nat} (hs : Hs M x 8 k o) (h8 : x % 8 = 0) (hW : M.W k = true) (hu : u < 18446744073709551616) :
    Calls Try.prog 15 #[.pointer (some ⟨p, 0, none⟩), .int .u64 x, .int .u64 u] w fun e w' => e = .returned (.int .i64 0) ∧ MeC 64 67 w' FP p (M.ld k o (byts u 8)) v B C ∧ Kp FP w w' := by
  obtain ⟨ab, cap, hv⟩ := Hs.form h hs
  have HFI := Lib.hid (find_hit h hs hv)
  have HST : Hid (∀ q, Calls Try.prog 25 #[v, .int .u64 x, .int .i64 8] (w.drewN q) fun e w' => e = .returned (.tuple #[.slice (some ⟨B k, o, none⟩) 8 8, .bool true]) ∧ ∃ q', w' = (w.drewN q).drewN q') := Lib.hid (fun q => stretch_hit (h.past (below_drewN (Below.refl _ _) q)) hs)
  have hcm := h.cv
  obtain ⟨f1, f2, f3, f4, f5⟩ := h.area hv k hs.1
  rw [hW] at f3
  have hd : (x : Int) % 8 = 0 := by omega
  have H := Lib.hid h
  have HK : Hid (k < M.n) := Lib.hid hs.1
  have HO : Hid (o + 8 ≤ M.S k) := Lib.hid hs.2.2.2
  subst hv
  clear h hs h8 hW f1 f2 f4 f5
  go_enter Try.func15, Try.ntmps15
  go_wp2_with (first | (go_at_call 53; refine HFI.out.mono ?_; rintro e w' ⟨rfl, q, rfl⟩) | (go_at_call 25; refine (HST.out _).mono ?_; rintro e w' ⟨rfl, q2, rfl⟩))
  go_loopw [10, 43] (fun _ s43 wr => ∃ j : Nat, j ≤ 8 ∧ s43 = .int .i64 j ∧ Hid (MeC 64 67 wr FP p (M.ld k o (byts u j)) (.slice (some ⟨ab, 0, none⟩) M.n cap) B C) ∧ Hid (Kp FP w wr)) (fun _ s43 _ => 8 - (intOf s43).toNat)
  case atStart => exact ⟨0, by omega, rfl, Lib.hid (H.out.past (below_drewN (Below.refl _ _) _)), Lib.hid (Kp.of_below (below_drewN (Below.refl _ _) _))⟩
  case round =>
    obtain ⟨j, hj, rfl, HM, HKp⟩ := hrel
    by_cases hlt : j < 8
    · have hS : (M.ld k o (byts u j)).S = M.S := (ld_same k _ M o).2.2.1
      have hn : (M.ld k o (byts u j)).n = M.n := (ld_same k _ M o).1
      have HKn : Hid (k < (M.ld k o (byts u j)).n) := Lib.hid (by rw [hn]; exact HK.out)
      have HQ : Hid (o + j < (M.ld k o (byts u j)).S k) := Lib.hid (by rw [hS]; have := HO.out; omega)
      have hc := HM.out.cell HKn.out HQ.out
      have hf := HM.out.frz (o + j) HKn.out
      have HN : Hid (MeC 64 67 (wr.setCell ⟨B k, o + j, none⟩ (.int .u8 (byteOf u j : Nat))) FP p (M.ld k o (byts u (j + 1))) (.slice (some ⟨ab, 0, none⟩) M.n cap) B C) := Lib.hid (by
        have := HM.out.put1 (by decide) (by decide) HKn.out HQ.out (c := byteOf u j) (Nat.mod_lt _ (by decide))
        rw [show M.ld k o (byts u (j + 1)) = (M.ld k o (byts u j)).put1 k (o + j) (byteOf u j) from by
          show M.ld k o (byts u j ++ [byteOf u j]) = _
          rw [ld_snoc, byts_len]]
        exact this)
      have HKn2 : Hid (Kp FP w (wr.setCell ⟨B k, o + j, none⟩ (.int .u8 (byteOf u j : Nat)))) := Lib.hid (HKp.out.trans (kp_set _ _ _ _ (H.out.fb k HK.out)) fun _ hf => .inl hf)
      rw [byteOf_cast] at HN HKn2
      clear hS hn
      go_wp2
      exact ⟨⟨j + 1, by omega, by go_num, HN, HKn2⟩, by simp [intOf]; omega⟩
    · obtain rfl : j = 8 := by omega
      go_wp2
      go_ret
      exact ⟨rfl, HM.out, HKp.out⟩
end
end Go.Proofs.Ytjcbhomfggjmhaa.Mm
