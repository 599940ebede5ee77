import Derived.Test.YthgpolddbadfmaaGq
import Derived.Below
import Derived.BigGuardPart
import Derived.Deep.AppendLies
import Derived.Deep.OwnRows
import Derived.Deep.RegionHeld3
import Derived.Deep.RegionLaw
import Derived.Lib.Hide
import Derived.Lib.SliceRun
import Derived.LoopIn
import Derived.LoopNIn
import Derived.Maps.AppendAt
import Derived.OwnWalkIn
import Derived.ProofKit
import Derived.RangeFuncBound
import Derived.RangeFuncBox
import Derived.RangeFuncCalls
import Derived.RangeFuncLeaves
import Derived.RangeFuncNested
import Derived.Shelf.Abstract
import Derived.Shelf.RegionOpen
import Derived.TacticsInMore
import Derived.OwnWalk
import Derived.StillTailTactics
import Derived.Laws.OwnMore
import Derived.Deep.QuietTactic
import Derived.BigQuiet
namespace Go.Proofs.Ythgpolddbadfmaa
open Go.RowKit Go.Shelf
set_option linter.unusedVariables false
attribute [local go_sem] Oper.semAt_some
/-- What a word's instruction is, as a value: n numbers of each. -/
def Dec (F : Nat → Int) (D : Nat → Value) (n : Nat) : Prop := ∀ k, k < n → ∀ w, Calls Try.prog 18 #[.int .u32 (F k)] w fun e w' => e = .returned (D k) ∧ Below w.heap.size w w'
/-- A slice of words. -/
def SrcW (w : World) (A : Option Addr) (n : Nat) (F : Nat → Int) : Prop := n = 0 ∨ ∃ b off, A = some ⟨b, off, none⟩ ∧ b < w.heap.size ∧ ∀ j, j < n → w.cell? ⟨b, off + j, none⟩ = some (.int .u32 (F j))
theorem SrcW.past {w w' : World} {A : Option Addr} {n : Nat} {F : Nat → Int} (h : SrcW w A n F) (hB : Below w.heap.size w w') : SrcW w' A n F := by
  rcases h with h | ⟨b, off, hA, hb, hc⟩
  · exact .inl h
  · exact .inr ⟨b, off, hA, Nat.lt_of_lt_of_le hb hB.size, fun j hj => (hB.cell (p := ⟨b, off + j, none⟩) hb).trans (hc j hj)⟩
/-- What of the iterator's own must stay. -/
def KpB (rb : Nat) (A B : World) : Prop := rb < A.heap.size → rb < B.heap.size ∧ B.heap[rb]? = A.heap[rb]?
theorem KpB.t {rb : Nat} {A B C : World} (h : KpB rb A B) (k : KpB rb B C) : KpB rb A C := fun hr => ⟨(k (h hr).1).1, (k (h hr).1).2.trans (h hr).2⟩
theorem KpB.alloc (rb : Nat) (W : World) (o : Obj) : KpB rb W (W.alloc o) := fun hr => ⟨by rw [World.size_alloc]; omega, Below.heap_alloc _ _ _ hr⟩
theorem grown_none {w w' : World} (h : Below w.heap.size w w') : w.grownBy w' none := ⟨h.os, h.tape, h.output, h.size, fun k hk _ => h.block k hk⟩
def up (k : Nat) : List Nat := List.range k
theorem up_length (k : Nat) : (up k).length = k := by simp [up]
theorem up_succ (k : Nat) : up (k + 1) = up k ++ [k] := by simp [up, List.range_succ]
/-- The block that a slice lies in. -/
def rbOf (A : Option Addr) : Nat := match A with | some a => a.block | none => 0
set_option maxRecDepth 100000 in
set_option maxHeartbeats 2000000 in
theorem each_stops (bx : Nat) (A : Option Addr) (n cap : Nat) (F : Nat → Int) (D : Nat → Value) (w : World) (hn : n ≤ maxLen) (HD : Hid (Dec F D n)) (hbx : Boxed w bx 34 (.slice A n cap)) (HS : Hid (SrcW w A n F)) :
    SeqStopsK Fence.wide 4 Try.prog 59 #[.pointer (some ⟨bx, 0, none⟩)] (fun k : Nat => #[.int .i64 k, D k]) (KpB (rbOf A)) (fun xs => xs = up n) (fun pre => ∃ k, pre = up k ++ [k]) n w := fun l J Jx W hW hJ hJx hY h0 => by
  have hbW : Boxed W bx 34 (.slice A n cap) := (hW.block bx hbx.lt).trans hbx
  have cB := hbW.cell
  have HSW := Lib.hid (HS.out.past hW)
  have hn63 : n ≤ 9223372036854775807 := by unfold maxLen at hn; omega
  refine callsIn_of_wp Try.func59 rfl trivial ?_ rfl
  simp only [Try.ntmps59, List.size_toArray, List.length_cons, List.length_nil, Nat.reduceAdd, Nat.reduceSub, Array.replicate_succ, Array.replicate_zero, List.push_toArray, List.append_toArray, List.nil_append, List.cons_append]
  gi_wp2
  clear cB
  gi_loopw [3, 4, 7] (fun _ _ ix wr => ∃ k : Nat, k ≤ n ∧ ix = .int .i64 k ∧ J (up k) wr ∧ Hid (SrcW wr A n F)) (fun _ _ ix _ => n - (intOf ix).toNat)
  case atStart => exact ⟨0, by omega, rfl, h0, HSW⟩
  case round =>
    obtain ⟨k, hk, rfl, hJs, HSr⟩ := hrel
    by_cases hlt : k < n
    · obtain ⟨b, off, rfl, hb, hc⟩ : ∃ b off, A = some ⟨b, off, none⟩ ∧ b < wr.heap.size ∧ ∀ j, j < n → wr.cell? ⟨b, off + j, none⟩ = some (.int .u32 (F j)) := by
        rcases HSr.out with h | h
        · omega
        · exact h
      have c0 := hc k hlt
      clear hc
      gi_wp2_with (fail)
      refine ⟨trivial, ?_⟩
      refine (callsIn_wide.2 (HD.out k hlt _)).mono ?_
      rintro e w1 ⟨rfl, hb1⟩
      have hJ1 := hJ (up k) wr w1 none hJs (grown_none hb1) (fun r e => by cases e)
      have HS1 := Lib.hid (HSr.out.past hb1)
      obtain ⟨fn, tmps, assign, body, hy, hR⟩ := hY (up k) k w1 hJ1 (by rw [up_length]; exact hlt)
      clear hb1 c0 hJs hb
      gi_wp2
      refine hR.mono ?_
      rintro e W3 (⟨rfl, hJ3, hk3⟩ | ⟨rfl, hJx3⟩)
      · have HS3 : Hid (SrcW W3 (some ⟨b, off, none⟩) n F) := Lib.hid (by
          rcases HS1.out with h | ⟨b', off', hA, hb', hc'⟩
          · exact .inl h
          · injection hA with hA
            injection hA with h1 h2
            subst h1 h2
            have hbb : W3.heap[b]? = w1.heap[b]? := (hk3 hb').2
            have hlt3 : b < W3.heap.size := (hk3 hb').1
            exact .inr ⟨b, off, rfl, hlt3, fun j hj => (World.cell?_of_block hbb).trans (hc' j hj)⟩)
        gi_wp2
        go_roundw
        case rel => exact ⟨k + 1, by omega, by simp, by rw [up_succ]; exact hJ3, HS3⟩
        case measure => simp [intOf]; omega
      · gi_wp2
        refine bodyPost_ret (results_none rfl _ _ _) rfl ?_
        exact ⟨⟨_, rfl⟩, .inr ⟨_, ⟨k, rfl⟩, hJx3⟩⟩
    · have hkn : k = n := by omega
      have HK := Lib.hid hkn
      clear hkn
      gi_wp2
      go_end0
      first | exact ⟨⟨_, rfl⟩, .inl ⟨_, rfl, HK.out ▸ hJs⟩⟩ | exact ⟨⟨_, rfl⟩, .inl (HK.out ▸ hJs)⟩
end Go.Proofs.Ythgpolddbadfmaa
namespace Go.Proofs.Ythgpolddbadfmaa
open Go.ChangeShapes Go.WideShapes Go.ChangeAt Go.RowKit
set_option linter.unusedVariables false
theorem info25x : (Try.prog.info? 25).map (fun i => (i.zero, i.size, i.bytes)) = some (some (.int .u32 0), 1, 4) := by kernel_rfl
theorem info_partsx {P : Program} {t : TypeId} {z : Value} {s b : Nat} (h : (P.info? t).map (fun i => (i.zero, i.size, i.bytes)) = some (some z, s, b)) : ∃ i, P.info? t = some i ∧ i.zero = some z ∧ i.size = s ∧ i.bytes = b := by
  cases hq : P.info? t with
  | none => rw [hq] at h; cases h
  | some i =>
    rw [hq] at h
    injection h with h
    injection h with h1 h2
    injection h2 with h2 h3
    exact ⟨i, rfl, h1, h2, h3⟩
def wcs (n : Nat) (F : Nat → Int) : List Value := (List.range n).map fun p => .int .u32 (F p)
theorem wcs_length (n : Nat) (F : Nat → Int) : (wcs n F).length = n := by simp [wcs]
theorem wcs_get {n : Nat} {F : Nat → Int} {j : Nat} (h : j < n) : (wcs n F)[j]? = some (.int .u32 (F j)) := by
  unfold wcs
  rw [List.getElem?_map, List.getElem?_range h]; rfl
theorem wcs_one (n : Nat) (F : Nat → Int) : ∀ u ∈ wcs n F, u.oneCell' = true := fun u hu => by obtain ⟨p, _, rfl⟩ := List.mem_map.1 hu; rfl
/-- An owned row of words is a slice of words. -/
theorem src_of_row {w : World} {B n : Nat} {v : Value} {F : Nat → Int} (h : w.ownsRow B 25 1 v n (wcs n F)) : ∃ A cap, v = .slice A n cap ∧ SrcW w A n F ∧ ∀ a, A = some a → B ≤ a.block ∧ a.block < w.heap.size := by
  rcases h.2 with ⟨rfl, hn⟩ | ⟨g, cap, cur, hv, hb, hg, hn, hm, hs, ht⟩
  · exact ⟨none, 0, by rw [hn], .inl hn, fun a h => by cases h⟩
  · refine ⟨some ⟨g, 0, none⟩, cap, hv, .inr ⟨g, 0, rfl, (Array.getElem?_eq_some_iff.1 hg).1, fun j hj => ?_⟩, fun a h => by injection h with h; subst h; exact ⟨hb, (Array.getElem?_eq_some_iff.1 hg).1⟩⟩
    rw [Nat.zero_add, cell_of_row w g j cur 25 _ hg]
    have hu := wcs_get (F := F) hj
    rw [← ht] at hu
    rw [List.getElem?_take] at hu
    split at hu
    · simpa using hu
    · cases hu
theorem below_row' {w w' : World} {B n : Nat} {e : TypeId} {v : Value} {xs : List Value} (ho : w.ownsRow B e 1 v n xs) (hB : B ≤ w.heap.size) (h : w.grownBy w' v.ownBlock) : Below B w w' := by
  rcases ho.2 with ⟨rfl, _⟩ | ⟨g, cap, cur, rfl, hb, _⟩
  · exact ⟨h.os, h.tape, h.output, h.size, fun k hk => h.block k (by omega) (by simp [Value.ownBlock])⟩
  · exact ⟨h.os, h.tape, h.output, h.size, fun k hk => h.block k (by omega) (by simp [Value.ownBlock]; omega)⟩
def CloneP (n : Nat) (F : Nat → Int) (w : World) (r : Ending) (w' : World) : Prop := ∃ A cap, r = .returned (.slice A n cap) ∧ SrcW w' A n F ∧ (∀ a, A = some a → w.heap.size ≤ a.block ∧ a.block < w'.heap.size) ∧ Below w.heap.size w w'
set_option maxRecDepth 100000 in
set_option maxHeartbeats 2000000 in
theorem clone_c (A : Option Addr) (n cap : Nat) (F : Nat → Int) (w : World) (n2 : n ≤ 1000) (HS : Hid (SrcW w A n F)) : Calls Try.prog 48 #[.slice A n cap] w (CloneP n F w) := by
  obtain ⟨i0, hi, hz0, hz1, hz2⟩ := info_partsx info25x
  have hnil := fun W => Lib.run_eql_slice_nil (P := Try.prog) W 34 25 A n cap 0 0 Try.underlying34
  cases A with
  | none =>
    have h0 : n = 0 := by
      rcases HS.out with h | ⟨b, off, hA, _⟩
      · exact h
      · cases hA
    subst h0
    go_enter Try.func48, Try.ntmps48
    go_wp2
    go_ret
    exact ⟨none, 0, rfl, .inl rfl, fun a h => (by cases h), Below.refl _ _⟩
  | some ad =>
    have HO := Lib.hid (World.ownsRow_made (base := w.heap.size) (e := 25) (size := 1) w #[] 0 (Nat.le_refl _) (by unfold maxLen; omega) rfl)
    have HN : Hid (∀ j u, (wcs n F)[j]? = some u → (w.alloc (.cells #[] 25)).cell? (ad.add j) = some u) := Lib.hid (by
      intro j u hu
      have hj := (List.getElem?_eq_some_iff.1 hu).1
      rw [wcs_length] at hj
      rcases HS.out with h | ⟨b, off, hA, hb, hc⟩
      · omega
      · injection hA with hA
        subst hA
        rw [Go.WideShapes.add_plain, World.cell?_alloc_past _ _ _ hb, hc j hj, ← wcs_get (F := F) hj]
        exact hu)
    have HL : Hid ((wcs n F).length = n * 1) := Lib.hid (by rw [wcs_length, Nat.mul_one])
    have H1 := Lib.hid (wcs_one n F)
    have hm3 : 0 + n ≤ maxLen := by unfold maxLen; omega
    have hm4 : (0 + n) * 4 ≤ 140737488355328 := by omega
    have hm5 : w.heap.size ≤ (w.alloc (.cells #[] 25)).heap.size := by rw [World.size_alloc]; omega
    go_enter Try.func48, Try.ntmps48
    go_wp2_with (at_builtin; refine wpList_append_own _ rfl _ _ 34 rfl w.heap.size 25 i0 (.int .u32 0) 1 4 Try.underlying34 hi hz0 hz1 hz2 rfl (by decide) _ 0 [] rfl HO.out ad n cap (wcs n F) rfl HL.out HN.out H1.out hm3 hm4 hm5 ?_)
    intro v w1 hown hgrow _
    have HB : Hid (Below w.heap.size w w1) := Lib.hid (((Below.refl _ _).alloc (Nat.le_refl _) _).trans (below_row' HO.out hm5 hgrow))
    have HO1 := Lib.hid hown
    clear hown hgrow
    go_wp2
    go_ret
    obtain ⟨A', cap', hv, hs, hab⟩ := src_of_row HO1.out
    exact ⟨A', cap', by rw [hv]; rfl, hs, hab, HB.out⟩
/-- What makes a row to be gone over. -/
def EachP (A : Option Addr) (n cap : Nat) (w : World) (r : Ending) (w' : World) : Prop := r = .returned (.func (.func 59) #[] #[.pointer (some ⟨w.heap.size, 0, none⟩)]) ∧ w' = w.alloc (.cells #[.slice A n cap] 34)
theorem each_c (A : Option Addr) (n cap : Nat) (w : World) : Calls Try.prog 47 #[.slice A n cap] w (EachP A n cap w) := by
  go_enter Try.func47, Try.ntmps47
  go_wp2
  go_ret
  exact ⟨rfl, rfl⟩
def AllP (n : Nat) (F : Nat → Int) (w : World) (r : Ending) (w' : World) : Prop := ∃ A cap bx, r = .returned (.func (.func 59) #[] #[.pointer (some ⟨bx, 0, none⟩)]) ∧ w.heap.size ≤ bx ∧ Boxed w' bx 34 (.slice A n cap) ∧ SrcW w' A n F ∧ (∀ a, A = some a → w.heap.size ≤ a.block ∧ a.block < w'.heap.size) ∧ Below w.heap.size w w'
theorem all_c (A : Option Addr) (n cap : Nat) (F : Nat → Int) (w : World) (n2 : n ≤ 1000) (HS : Hid (SrcW w A n F)) : Calls Try.prog 22 #[.slice A n cap] w (AllP n F w) := by
  go_enter Try.func22, Try.ntmps22
  go_wp2_with fail
  refine (clone_c A n cap F w n2 HS).mono ?_
  rintro r w1 ⟨A1, cap1, rfl, hs, hab, hb⟩
  have HS1 := Lib.hid hs
  have HB1 := Lib.hid hb
  have HA := Lib.hid hab
  clear hs hb hab
  go_wp2_with fail
  refine (each_c A1 n cap1 w1).mono ?_
  rintro r w2 ⟨rfl, rfl⟩
  go_wp2
  go_ret
  exact ⟨A1, cap1, w1.heap.size, rfl, HB1.out.size, Boxed.new w1 34 _, HS1.out.past ((Below.refl _ _).alloc (Nat.le_refl _) _), fun a h => ⟨(HA.out a h).1, by rw [World.size_alloc]; have := (HA.out a h).2; omega⟩, HB1.out.alloc HB1.out.size _⟩
end Go.Proofs.Ythgpolddbadfmaa
namespace Go.Proofs.Ythgpolddbadfmaa
open Go.ChangeShapes Go.WideShapes Go.ChangeAt Go.RowKit Go.Shelf
set_option linter.unusedVariables false
attribute [local go_sem] Oper.semAt_some
/-- A slice of bytes. -/
def SrcB (w : World) (A : Option Addr) (n : Nat) (G : Nat → Int) : Prop := n = 0 ∨ ∃ b off, A = some ⟨b, off, none⟩ ∧ b < w.heap.size ∧ ∀ j, j < n → w.cell? ⟨b, off + j, none⟩ = some (.int .u8 (G j))
theorem SrcB.past {w w' : World} {A : Option Addr} {n : Nat} {G : Nat → Int} (h : SrcB w A n G) (hB : Below w.heap.size w w') : SrcB w' A n G := by
  rcases h with h | ⟨b, off, hA, hb, hc⟩
  · exact .inl h
  · exact .inr ⟨b, off, hA, Nat.lt_of_lt_of_le hb hB.size, fun j hj => (hB.cell (p := ⟨b, off + j, none⟩) hb).trans (hc j hj)⟩
/-- The words of bytes. -/
def wd (G : Nat → Int) (k : Nat) : Int := bits .or .u32 (bits .or .u32 (bits .or .u32 (G (4 * k)) (G (4 * k + 1) * 256)) (G (4 * k + 2) * 65536)) (G (4 * k + 3) * 16777216)
set_option maxRecDepth 100000 in
set_option maxHeartbeats 4000000 in
theorem dbytes_n (A : Option Addr) (n cap : Nat) (w : World) (n2 : n ≤ 800) (h4 : ¬ n % 4 = 0) :
    Calls Try.prog 23 #[.slice A n cap] w fun r w' => r = .returned (.tuple #[.slice none 0 0, .int .i64 6]) ∧ Below w.heap.size w w' := by
  have ht : (((n : Int) % 4) == 0) = false := by simpa using (show ¬ (n : Int) % 4 = 0 by omega)
  go_enter Try.func23, Try.ntmps23
  go_wp2
  go_ret2
  exact ⟨rfl, Below.refl _ _⟩
theorem row_lt' {w : World} {base g n cp m size : Nat} {e : TypeId} {xs : List Value} (h : w.ownsRow base e size (.slice (some ⟨g, 0, none⟩) n cp) m xs) : g < w.heap.size := by
  rcases h.2 with ⟨h1, _⟩ | ⟨g', cap, cur, hv, hb, hg, _⟩
  · cases h1
  · injection hv with h1
    injection h1 with h1
    injection h1 with h1
    subst h1
    exact (Array.getElem?_eq_some_iff.1 hg).1
theorem rows_of' {w : World} {g n cp base size : Nat} {e : TypeId} {xs : List Value} (h : w.ownsRow base e size (.slice (some ⟨g, 0, none⟩) n cp) n xs) : (∀ p u, xs[p]? = some u → w.cell? ⟨g, p, none⟩ = some u) ∧ (∀ p, w.frozen? ⟨g, p, none⟩ = false) := by
  rcases h.2 with ⟨h1, _⟩ | ⟨g', cap, cur, hv, hb, hg, hn, hm, hs, ht⟩
  · cases h1
  · injection hv with h1 h2 h3
    injection h1 with h1
    injection h1 with h1
    subst h1 h3
    refine ⟨fun p u hu => ?_, fun p => frozen_of_row w g p cur e hg⟩
    rw [cell_of_row w g p cur e _ hg]
    rw [← ht] at hu
    rw [List.getElem?_take] at hu
    split at hu
    · simpa using hu
    · cases hu
theorem wrapI (a : Int) (h : 0 ≤ a) (h' : a < 1000) : IntKind.i64.wrap a = a := by
  rw [IntKind.wrap_i64]; omega
theorem row_keep {w w' : World} {base g n cp m size : Nat} {e : TypeId} {xs : List Value} (h : w.ownsRow base e size (.slice (some ⟨g, 0, none⟩) n cp) m xs) (hb : Below w.heap.size w w') : w'.ownsRow base e size (.slice (some ⟨g, 0, none⟩) n cp) m xs := by
  have hl := row_lt' h
  refine ⟨h.1, ?_⟩
  rcases h.2 with ⟨h1, _⟩ | ⟨g', cap, cur, hv, hb', hg, hr⟩
  · cases h1
  · injection hv with h1 h2 h3
    injection h1 with h1
    injection h1 with h1
    subst h1 h3
    exact .inr ⟨g, cp, cur, by rw [h2], hb', (hb.block g hl).trans hg, hr⟩
/-- An instruction's numbers. -/
structure I7r where
  o : Int
  d : Int
  n : Int
  m : Int
  a : Int
  c : Int
  i : Int
def I7r.v (x : I7r) : Value := I7 x.o x.d x.n x.m x.a x.c x.i
def I7r.cs (x : I7r) : List Value := [.int .i64 x.o, .int .i64 x.d, .int .i64 x.n, .int .i64 x.m, .int .i64 x.a, .int .i64 x.c, .int .i64 x.i]
def rowOf (E : Nat → I7r) (pre : List Nat) : List Value := pre.flatMap fun x => (E x).cs
theorem cells7 (w : World) (x : I7r) (e : TypeId) : ∀ j u, x.cs[j]? = some u → (w.alloc (.cells #[.int .i64 x.o, .int .i64 x.d, .int .i64 x.n, .int .i64 x.m, .int .i64 x.a, .int .i64 x.c, .int .i64 x.i] e)).cell? ((⟨w.heap.size, 0, none⟩ : Addr).add j) = some u := by
  intro j u hu
  have hj : j < 7 := by
    have := (List.getElem?_eq_some_iff.1 hu).1
    simpa [I7r.cs] using this
  have hs := heap_alloc_new w (.cells #[.int .i64 x.o, .int .i64 x.d, .int .i64 x.n, .int .i64 x.m, .int .i64 x.a, .int .i64 x.c, .int .i64 x.i] e)
  rw [Go.WideShapes.add_plain, Nat.zero_add]
  have : j = 0 ∨ j = 1 ∨ j = 2 ∨ j = 3 ∨ j = 4 ∨ j = 5 ∨ j = 6 := by omega
  rcases this with rfl | rfl | rfl | rfl | rfl | rfl | rfl
  all_goals (simp [I7r.cs] at hu; subst hu; unfold World.cell?; simp only [hs]; rfl)
theorem one7 (x : I7r) : ∀ u ∈ x.cs, u.oneCell' = true := by intro u hu; simp [I7r.cs] at hu; rcases hu with rfl | rfl | rfl | rfl | rfl | rfl | rfl <;> rfl
theorem _root_.Go.World.ownsRow.mono_b {w : World} {b b' size n : Nat} {e : TypeId} {v : Value} {xs : List Value} (h : w.ownsRow b e size v n xs) (hb : b' ≤ b) : w.ownsRow b' e size v n xs := by
  refine ⟨h.1, ?_⟩
  rcases h.2 with h1 | ⟨g, cap, cur, hv, hbg, hr⟩
  · exact .inl h1
  · exact .inr ⟨g, cap, cur, hv, Nat.le_trans hb hbg, hr⟩
theorem row_grown {w w' : World} {base g b n cp m size : Nat} {e : TypeId} {xs : List Value} (h : w.ownsRow base e size (.slice (some ⟨g, 0, none⟩) n cp) m xs) (hgr : w.grownBy w' (some b)) (hne : g ≠ b) : w'.ownsRow base e size (.slice (some ⟨g, 0, none⟩) n cp) m xs := by
  have hl := row_lt' h
  refine ⟨h.1, ?_⟩
  rcases h.2 with ⟨h1, _⟩ | ⟨g', cap, cur, hv, hb', hg, hr⟩
  · cases h1
  · injection hv with h1 h2 h3
    injection h1 with h1
    injection h1 with h1
    subst h1 h3
    exact .inr ⟨g, cp, cur, by rw [h2], hb', (hgr.block g hl (fun e => hne (by injection e))).trans hg, hr⟩
/-- Going over a row of words as instructions, each of which is laid in a block of its own. -/
theorem range_st {P : Program} {n : Nat} {g : Operand} {p q r : Tmp} {assign body : Code} {Q : Exit → Act → World → Prop} {a : Act} {w : World} (h1 : 1 ≤ n) {gf : Nat} {lb : Array Value} (hg : a.eval g = .func (.func gf) #[] lb) (eg : ∀ args w, (callFunc gf args).run P w = .ok (.enter gf args) w)
    {E : Nat → I7r} {Kp : World → World → Prop} {S Sp : List Nat → Prop} {N : Nat} {w0 : World} (hseq : SeqStopsK Fence.wide (n - 1) P gf lb (fun k : Nat => #[.int .i64 k, (E k).v]) Kp S Sp N w0)
    (hKt : ∀ {A B C : World}, Kp A B → Kp B C → Kp A C) (hKb : ∀ (W : World) (l : Nat) (o o' : Obj), w.heap.size ≤ l → W.heap[l]? = some o → o.isCells = false → o.isWalk = false → Kp W (W.putObj l o')) (hKa : ∀ (W : World) (o : Obj), Kp W (W.alloc o)) (hb0 : Below w0.heap.size w0 w)
    (I : List Nat → World → Prop) (Ix : Code → List Nat → World → Prop) (hI : OwnFrom w.heap.size I) (hIx : ∀ c, OwnFrom w.heap.size (Ix c)) (hIs : ∀ pre W, I pre W → w.heap.size ≤ W.heap.size) (h0 : I [] w) (ex : Array Value → Nat → Array Value)
    (hassign : ∀ (l : Nat) (x : Nat) (W : World) (K : Act → World → Prop), K { tmps := (ex ((a.tmps.setIfInBounds p (.int .i64 x)).setIfInBounds q (E x).v) x).setIfInBounds r (.pointer (some ⟨W.heap.size, 0, none⟩)), defers := [] } (W.alloc (.cells (E x).cs.toArray 23)) →
      assign.wpIn (Fence.wide.inRound l) (n - 1 - 1) P (Exit.then K (fun _ _ _ => False)) { tmps := (a.tmps.setIfInBounds p (.int .i64 x)).setIfInBounds q (E x).v, defers := [] } W)
    (hbody : ∀ (l : Nat) (pre : List Nat) (x b8 : Nat) (W : World), I pre W → w.heap.size ≤ b8 → W.heap[b8]? = some (.cells (E x).cs.toArray 23 (0, 0)) → pre.length < N → body.wpIn (Fence.wide.inRound l) (n - 1 - 1) P (ownPostG w.heap.size Kp I Ix (pre ++ [x]) W) { tmps := (ex ((a.tmps.setIfInBounds p (.int .i64 x)).setIfInBounds q (E x).v) x).setIfInBounds r (.pointer (some ⟨b8, 0, none⟩)), defers := [] } W)
    (hdone : ∀ (D : Nat) (xs : List Nat) (W : World), w.heap.size ≤ D → S xs → I xs W → W.heap[D]? = some (.deferred (some [])) → Q .normal { a with defers := { target := .collected D, args := #[] } :: a.defers } W)
    (hstop : ∀ (D : Nat) (c : Code) (pre : List Nat) (W : World), w.heap.size ≤ D → Sp pre → Ix c pre W → W.heap[D]? = some (.deferred (some [])) → c.wpIn Fence.wide n P Q { a with defers := { target := .collected D, args := #[] } :: a.defers } W) :
    (Code.rangeFunc g #[p, q] assign body).wpIn Fence.wide n P Q a w :=
  wpIn_rangeFunc_ownH rfl h1 hg trivial eg hseq hKt hKb hb0 (fun _ => rfl) I Ix hI hIx h0
    (fun x a' W => ∃ b8, w.heap.size ≤ b8 ∧ a' = { tmps := (ex ((a.tmps.setIfInBounds p (.int .i64 x)).setIfInBounds q (E x).v) x).setIfInBounds r (.pointer (some ⟨b8, 0, none⟩)), defers := [] } ∧ W.heap[b8]? = some (.cells (E x).cs.toArray 23 (0, 0)))
    (fun x a' _ W W' row hs hgr hr => by
      obtain ⟨b8, h8, ha, hc⟩ := hs
      refine ⟨b8, h8, ha, (hgr.block b8 (Array.getElem?_eq_some_iff.1 hc).1 (fun e => ?_)).trans hc⟩
      obtain ⟨_, o, ho, hc'⟩ := hr b8 e.symm
      rw [hc] at ho
      cases ho
      cases hc')
    (fun l pre x W K hi hK => by
      have h := hassign l x W K (hK _ _ ⟨by rw [World.size_alloc]; omega, fun k o _ hk _ => (Below.heap_alloc _ _ _ (Array.getElem?_eq_some_iff.1 hk).1).trans hk⟩ (hKa W _) (hI.alloc _ hi) ⟨W.heap.size, hIs pre W hi, rfl, World.alloc_heap_new W _⟩)
      simpa using h)
    (fun l pre x a' W _ _ hi hax hlt => by
      obtain ⟨b8, h8, rfl, hc⟩ := hax
      exact hbody l pre x b8 W hi h8 hc hlt)
    hdone hstop
theorem kpb_put {rb B : Nat} (h : rb < B) (W : World) (l : Nat) (o o' : Obj) (hl : B ≤ l) (_ : W.heap[l]? = some o) (_ : o.isCells = false) (_ : o.isWalk = false) : KpB rb W (W.putObj l o') := fun hr => by
  have hne : rb ≠ l := by omega
  have := World.putObj_heap_other (w := W) (o := o') hne
  exact ⟨by
    have h1 : W.heap[rb]? = some (W.heap[rb]'hr) := Array.getElem?_eq_getElem hr
    rw [← this] at h1
    exact (Array.getElem?_eq_some_iff.1 h1).1, this⟩
/-- A row's cells speak of cells alone. -/
theorem row_own {β : Type} (base : Nat) (e : TypeId) (size g cp : Nat) (f : β → Nat) (xs : β → List Value) : Own (fun s W => W.ownsRow base e size (.slice (some ⟨g, 0, none⟩) (f s) cp) (f s) (xs s)) := fun s X Y row hs hg hrow => by
  refine ⟨hs.1, ?_⟩
  rcases hs.2 with ⟨h1, _⟩ | ⟨g', cap, cur, hv, hb', hg', hr⟩
  · cases h1
  · injection hv with h1 h2 h3
    injection h1 with h1
    injection h1 with h1
    subst h1 h3
    have hne : some g ≠ row := fun e' => by
      obtain ⟨o, ho, hc⟩ := hrow g e'.symm
      rw [hg'] at ho
      cases ho
      cases hc
    exact .inr ⟨g, cp, cur, rfl, hb', (hg.block g (Array.getElem?_eq_some_iff.1 hg').1 hne).trans hg', hr⟩
/-- The words that have been put together. -/
def wcs2 (m k : Nat) (F : Nat → Int) : List Value := (List.range m).map fun p => .int .u32 (if p < k then F p else 0)
theorem info23x : (Try.prog.info? 23).map (fun i => (i.zero, i.size, i.bytes)) = some (some (I7 0 0 0 0 0 0 0), 7, 56) := by kernel_rfl
set_option maxRecDepth 100000 in
set_option maxHeartbeats 4000000 in
theorem dbytes_y (A : Option Addr) (m cap : Nat) (G : Nat → Int) (E : Nat → I7r) (w : World) (n2 : m ≤ 200) (HS : Hid (SrcB w A (4 * m) G)) (HG : Hid (∀ j, 0 ≤ G j ∧ G j < 256)) (HD : Hid (Dec (wd G) (fun k => (E k).v) m)) :
    Calls Try.prog 23 #[.slice A (4 * m) cap] w fun r w' => ∃ g, r = .returned (.tuple #[.slice (some ⟨g, 0, none⟩) m m, .int .i64 0]) ∧ w'.ownsRow w.heap.size 23 7 (.slice (some ⟨g, 0, none⟩) m m) m (rowOf E (up m)) ∧ Below w.heap.size w w' := by
  obtain ⟨i0, hi, hz0, hz1, hz2⟩ := info_partsx info25x
  obtain ⟨j0, kj, kz0, kz1, kz2⟩ := info_partsx info23x
  refine (callsIn_wide (n := 5)).1 ?_
  refine callsIn_of_wp_marks Try.func23 rfl trivial ?_ rfl
  simp only [Try.ntmps23, List.size_toArray, List.length_cons, List.length_nil, Nat.reduceAdd, Nat.reduceSub, Array.replicate_succ, Array.replicate_zero, List.push_toArray, List.append_toArray, List.nil_append, List.cons_append]
  refine wpIn_wide.2 ?_
  go_wp2_with (at_make; refine wpList_make_full _ rfl _ _ 34 rfl w.heap.size 25 i0 (.int .u32 0) 1 Try.underlying34 hi hz0 hz1 _ _ _ _ m rfl rfl rfl rfl (by rw [hz2]; omega) (by unfold maxLen; omega) (Nat.le_refl _) ?_)
  intro w1 hown hgrow
  rw [toList_madeCells_one] at hown
  have hw1 := row_lt' hown
  have HC1 : Hid (∀ j, j < m → w1.cell? ⟨w.heap.size, j, none⟩ = some (.int .u32 0)) := Lib.hid (fun j hj => (rows_of' hown).1 j _ (by rw [List.getElem?_replicate, if_pos hj]))
  have HF1 := Lib.hid (rows_of' hown).2
  have HB1 : Hid (Below w.heap.size w w1) := Lib.hid ⟨hgrow.os, hgrow.tape, hgrow.output, hgrow.size, fun k hk => hgrow.block k hk (by simp)⟩
  clear hown hgrow
  go_wp2
  go_loopw [5, 19] (fun _ ix wr => ∃ k : Nat, k ≤ m ∧ ix = .int .i64 k ∧ Hid (∀ j, j < m → wr.cell? ⟨w.heap.size, j, none⟩ = some (.int .u32 (if j < k then wd G j else 0))) ∧ Hid (∀ j, wr.frozen? ⟨w.heap.size, j, none⟩ = false) ∧ w.heap.size < wr.heap.size ∧ Hid (Below w.heap.size w wr)) (fun _ ix _ => m - (intOf ix).toNat)
  case atStart => exact ⟨0, Nat.zero_le _, rfl, Lib.hid (fun j hj => by rw [if_neg (by omega)]; exact HC1.out j hj), HF1, hw1, HB1⟩
  case round =>
    obtain ⟨k, hk, rfl, HC, HF, hsz, HB⟩ := hrel
    by_cases hlt : k < m
    · obtain ⟨b, off, rfl, hb, hc⟩ : ∃ b off, A = some ⟨b, off, none⟩ ∧ b < w.heap.size ∧ ∀ j, j < 4 * m → w.cell? ⟨b, off + j, none⟩ = some (.int .u8 (G j)) := by
        rcases HS.out with h | h
        · omega
        · exact h
      have d0 := (HB.out.cell (p := ⟨b, off + 4 * k, none⟩) hb).trans (hc (4 * k) (by omega))
      have d1 := (HB.out.cell (p := ⟨b, off + (4 * k + 1), none⟩) hb).trans (hc (4 * k + 1) (by omega))
      have d2 := (HB.out.cell (p := ⟨b, off + (4 * k + 2), none⟩) hb).trans (hc (4 * k + 2) (by omega))
      have d3 := (HB.out.cell (p := ⟨b, off + (4 * k + 3), none⟩) hb).trans (hc (4 * k + 3) (by omega))
      have cw := HC.out k hlt
      have fw := HF.out k
      have g0 := HG.out (4 * k)
      have g1 := HG.out (4 * k + 1)
      have g2 := HG.out (4 * k + 2)
      have g3 := HG.out (4 * k + 3)
      have i3 : 4 * k + 3 < 4 * m := by omega
      clear hc
      have hw0 : IntKind.i64.wrap (4 * (k : Int)) = 4 * k := wrapI _ (by omega) (by omega)
      have p0 : (0 : Int) ≤ 4 * k := by omega
      have t0 : (4 * (k : Int)).toNat = 4 * k := by omega
      have l0 : (4 * (k : Int)) < 4 * m := by omega
      have hw1 : IntKind.i64.wrap (4 * (k : Int) + 1) = 4 * k + 1 := wrapI _ (by omega) (by omega)
      have p1 : (0 : Int) ≤ 4 * k + 1 := by omega
      have t1 : (4 * (k : Int) + 1).toNat = 4 * k + 1 := by omega
      have l1 : (4 * (k : Int) + 1) < 4 * m := by omega
      have hw2 : IntKind.i64.wrap (4 * (k : Int) + 2) = 4 * k + 2 := wrapI _ (by omega) (by omega)
      have p2 : (0 : Int) ≤ 4 * k + 2 := by omega
      have t2 : (4 * (k : Int) + 2).toNat = 4 * k + 2 := by omega
      have l2 : (4 * (k : Int) + 2) < 4 * m := by omega
      have hw3 : IntKind.i64.wrap (4 * (k : Int) + 3) = 4 * k + 3 := wrapI _ (by omega) (by omega)
      have p3 : (0 : Int) ≤ 4 * k + 3 := by omega
      have t3 : (4 * (k : Int) + 3).toNat = 4 * k + 3 := by omega
      have l3 : (4 * (k : Int) + 3) < 4 * m := by omega
      go_wp2
      go_still_tail 36, (by kernel_rfl)
      go_wp2
      have HB' := Lib.hid ((HB.out.setCell (p := ⟨w.heap.size, k, none⟩) (Nat.le_refl _) (.int .u32 (wd G k))).drew)
      have HC' : Hid (∀ j, j < m → ((wr.setCell ⟨w.heap.size, k, none⟩ (.int .u32 (wd G k))).drew).cell? ⟨w.heap.size, j, none⟩ = some (.int .u32 (if j < k + 1 then wd G j else 0))) := Lib.hid (fun j hj => by
        by_cases hjk : j = k
        · subst hjk
          rw [if_pos (by omega)]
          exact World.cell?_setCell_same _ _ _ cw
        · refine (World.cell?_setCell_other _ _ _ _ (by intro e; injection e with _ e _; exact hjk e.symm)).trans ?_
          rw [HC.out j hj]
          by_cases h : j < k
          · rw [if_pos h, if_pos (by omega)]
          · rw [if_neg h, if_neg (by omega)])
      have HF' : Hid (∀ j, ((wr.setCell ⟨w.heap.size, k, none⟩ (.int .u32 (wd G k))).drew).frozen? ⟨w.heap.size, j, none⟩ = false) := Lib.hid (fun j => (World.frozen?_setCell _ _ _ _).trans (HF.out j))
      have hsz' : w.heap.size < ((wr.setCell ⟨w.heap.size, k, none⟩ (.int .u32 (wd G k))).drew).heap.size := by
        show w.heap.size < (wr.setCell ⟨w.heap.size, k, none⟩ (.int .u32 (wd G k))).heap.size
        simpa [World.setCell] using hsz
      constructor
      · exact ⟨k + 1, by omega, by go_num, HC', HF', hsz', HB'⟩
      · simp [intOf]; omega
    · obtain rfl : m = k := by omega
      have HSW : Hid (SrcW wr (some ⟨w.heap.size, 0, none⟩) m (wd G)) := Lib.hid (.inr ⟨w.heap.size, 0, rfl, hsz, fun j hj => by rw [Nat.zero_add, HC.out j hj, if_pos hj]⟩)
      clear HC HF
      have hwr : w.heap.size ≤ wr.heap.size := HB.out.size
      go_wp2_with (at_make; refine wpList_make_own _ rfl _ _ 33 rfl wr.heap.size 23 j0 (I7 0 0 0 0 0 0 0) 7 Try.underlying33 kj kz0 kz1 _ _ _ m rfl rfl rfl (by rw [kz2]; omega) (by unfold maxLen; omega) (Nat.le_refl _) ?_)
      intro w2 hown hgrow
      have hl2 := row_lt' hown
      have HO2 := Lib.hid hown
      have HR2 : Hid (Below wr.heap.size wr w2) := Lib.hid ⟨hgrow.os, hgrow.tape, hgrow.output, hgrow.size, fun k hk => hgrow.block k hk (by simp)⟩
      clear hown hgrow
      go_wp2_with (fail)
      obtain ⟨gR, hgR⟩ : ∃ gR, gR = wr.heap.size := ⟨_, rfl⟩
      obtain ⟨b6, hb6⟩ : ∃ b6, b6 = w2.heap.size := ⟨_, rfl⟩
      rw [← hgR] at HO2 hl2 ⊢
      refine (each_c _ m m _).mono ?_
      rintro e w3 ⟨rfl, rfl⟩
      have hsz2 : gR < b6 := by rw [hb6]; exact hl2
      have hszw : w.heap.size < gR := by rw [hgR]; exact hsz
      have e2 : (w2.alloc (.cells #[.slice (some ⟨gR, 0, none⟩) 0 m] 33)).heap.size = b6 + 1 := by rw [World.size_alloc, hb6]
      obtain ⟨w3, hw3⟩ : ∃ w3, w3 = (w2.alloc (.cells #[.slice (some ⟨gR, 0, none⟩) 0 m] 33)).alloc (.cells #[.slice (some ⟨w.heap.size, 0, none⟩) m m] 34) := ⟨_, rfl⟩
      have e3 : w3.heap.size = b6 + 2 := by rw [hw3, World.size_alloc, e2]
      have hB2 : Below w2.heap.size w2 w3 := by rw [hw3]; exact ((Below.refl _ _).alloc (Nat.le_refl _) _).alloc (by rw [World.size_alloc]; omega) _
      have b60 : Boxed w3 b6 33 (.slice (some ⟨gR, 0, none⟩) 0 m) := by rw [hw3, hb6]; exact (Boxed.new w2 33 _).alloc _
      have bx0 : Boxed w3 (b6 + 1) 34 (.slice (some ⟨w.heap.size, 0, none⟩) m m) := by
        rw [hw3, ← e2]; exact Boxed.new _ 34 _
      have hO3 : w3.ownsRow gR 23 7 (.slice (some ⟨gR, 0, none⟩) 0 m) 0 [] := row_keep HO2.out hB2
      have HS3 : Hid (SrcW w3 (some ⟨w.heap.size, 0, none⟩) m (wd G)) := Lib.hid ((HSW.out.past HR2.out).past hB2)
      have hbA : Below w.heap.size w w3 := (HB.out.trans (HR2.out.mono HB.out.size)).trans (hB2.mono (Nat.le_trans HB.out.size HR2.out.size))
      rw [← hw3, e2, ← hb6]
      have HBX := Lib.hid bx0
      have HBA := Lib.hid hbA
      have HD3 : Hid (Dec (wd G) (fun k => (E k).v) m) := HD
      clear HO2 HR2 HSW hl2 hB2 hw3 e2 hb6 hgR HB hbA bx0
      go_wp2
      refine (wpIn_wide (n := 5)).1 ?_
      refine range_st (r := 8) (by decide) (gf := 59) (lb := #[.pointer (some ⟨b6 + 1, 0, none⟩)]) rfl (fun args w => rfl)
        (each_stops (b6 + 1) _ m m (wd G) (fun k => (E k).v) w3 (by unfold maxLen; omega) HD3 HBX.out HS3) (fun h k => KpB.t h k) (kpb_put (by show w.heap.size < w3.heap.size; omega)) (KpB.alloc _) (Below.refl _ _)
        (fun pre W => ((Boxed W b6 33 (.slice (some ⟨gR, 0, none⟩) pre.length m) ∧ W.ownsRow gR 23 7 (.slice (some ⟨gR, 0, none⟩) pre.length m) pre.length (rowOf E pre)) ∧ Below w.heap.size w W) ∧ w3.heap.size ≤ W.heap.size)
        (fun _ _ _ => False)
        (OwnFrom.and (OwnFrom.and (OwnFrom.and (Own.from (boxed_own b6 33 (fun pre : List Nat => .slice (some ⟨gR, 0, none⟩) pre.length m)) _) (Own.from (row_own gR 23 7 gR m (fun pre : List Nat => pre.length) (fun pre => rowOf E pre)) _)) (ownFrom_below (Nat.le_refl _) (by omega))) (fun _ _ _ _ hs hg _ => Nat.le_trans hs hg.size))
        (fun _ _ _ _ _ hs _ _ => hs) (fun _ _ h => h.2) ⟨⟨⟨b60, hO3⟩, HBA.out⟩, Nat.le_refl _⟩ (fun t _ => t) ?assign ?body ?done ?stop
      case assign =>
        intro l x W K hK
        simp only [List.setIfInBounds_toArray, List.set_cons_succ, List.set_cons_zero, I7r.v, I7r.cs] at hK ⊢
        gi_wp2
        exact hK
      case stop =>
        rintro D c pre W _ _ h _
        exact h.elim
      case done =>
        rintro D xs W hD rfl ⟨⟨⟨hv, hrow⟩, hB⟩, _⟩ hK
        have hc := hv.cell
        go_wp2
        refine ⟨by simp, .inl ⟨_, _, rfl, run_takeDeferred hK, ?_⟩⟩
        have hg := grownBy_putObj' W D (.deferred none)
        have hl : (up m).length = m := up_length m
        rw [hl] at hrow
        refine ⟨_, results_tmp2 rfl _ _ _, gR, ?_, (row_grown hrow hg (by omega)).mono_b (by omega), hB.grown hg (Nat.le_trans (Nat.le_of_lt hszw) (by omega)) (fun k e => by injection e with e; omega)⟩
        simp [up_length]
      case body =>
        rintro l pre x b8 W ⟨⟨⟨hv, hrow⟩, hB⟩, hs3⟩ h8 h8c hlt
        simp only [List.setIfInBounds_toArray, List.set_cons_succ, List.set_cons_zero]
        have hc := hv.cell
        have hf := hv.frozen
        have k0 : W.cell? ⟨b8, 0, none⟩ = some (.int .i64 (E x).o) := by unfold World.cell?; simp only [h8c]; rfl
        have k1 : W.cell? ⟨b8, 1, none⟩ = some (.int .i64 (E x).d) := by unfold World.cell?; simp only [h8c]; rfl
        have k2 : W.cell? ⟨b8, 2, none⟩ = some (.int .i64 (E x).n) := by unfold World.cell?; simp only [h8c]; rfl
        have k3 : W.cell? ⟨b8, 3, none⟩ = some (.int .i64 (E x).m) := by unfold World.cell?; simp only [h8c]; rfl
        have k4 : W.cell? ⟨b8, 4, none⟩ = some (.int .i64 (E x).a) := by unfold World.cell?; simp only [h8c]; rfl
        have k5 : W.cell? ⟨b8, 5, none⟩ = some (.int .i64 (E x).c) := by unfold World.cell?; simp only [h8c]; rfl
        have k6 : W.cell? ⟨b8, 6, none⟩ = some (.int .i64 (E x).i) := by unfold World.cell?; simp only [h8c]; rfl
        have hrow' := Lib.hid (row_keep hrow ((Below.refl _ _).alloc (Nat.le_refl _) (.cells #[.int .i64 (E x).o, .int .i64 (E x).d, .int .i64 (E x).n, .int .i64 (E x).m, .int .i64 (E x).a, .int .i64 (E x).c, .int .i64 (E x).i] 23)))
        have hv' := Lib.hid (hv.alloc (.cells #[.int .i64 (E x).o, .int .i64 (E x).d, .int .i64 (E x).n, .int .i64 (E x).m, .int .i64 (E x).a, .int .i64 (E x).c, .int .i64 (E x).i] 23))
        have hlt' : pre.length + 1 ≤ m := hlt
        gi_wp2_with (gi_at_builtin; refine wpListIn_append_fits _ rfl _ _ 33 rfl gR 23 j0 7 Try.underlying33 kj kz1 gR pre.length m (rowOf E pre) rfl hrow'.out ⟨W.heap.size, 0, none⟩ 1 1 (E x).cs rfl rfl (cells7 _ _ _) (one7 _) hlt' ?_)
        intro w4 hown4 hgr4
        have hv4 : Boxed w4 b6 33 (.slice (some ⟨gR, 0, none⟩) pre.length m) := hv'.out.kept hgr4 (fun e => by injection e with e; omega)
        have c6 := hv4.cell
        have f6 := hv4.frozen
        have HV4 := Lib.hid hv4
        have HO4 := Lib.hid hown4
        have HG4 := Lib.hid hgr4
        have HS := Lib.hid (grownBy_setCell' w4 b6 (.slice (some ⟨gR, 0, none⟩) (pre.length + 1) m))
        clear hown4 hgr4 hv4 k0 k1 k2 k3 k4 k5 k6 hc hf
        gi_wp2
        have hl : (pre ++ [x]).length = pre.length + 1 := by simp
        have hsz4 : W.heap.size ≤ w4.heap.size := Nat.le_trans (by rw [World.size_alloc]; omega) HG4.out.size
        have hsame : ∀ k, k < W.heap.size → k ≠ gR → k ≠ b6 → (w4.setCell ⟨b6, 0, none⟩ (.slice (some ⟨gR, 0, none⟩) (pre.length + 1) m)).heap[k]? = W.heap[k]? := fun k hk h1 h2 =>
          (HS.out.block k (by omega) (fun e => h2 (by injection e))).trans ((HG4.out.block k (by rw [World.size_alloc]; omega) (fun e => h1 (by injection e))).trans (Below.heap_alloc _ _ _ hk))
        have hszS := HS.out.size
        refine ⟨⟨by omega, fun k o hk3 hko hoc => (hsame k (Array.getElem?_eq_some_iff.1 hko).1 (by omega) (by omega)).trans hko⟩, fun hr => ⟨by show w.heap.size < _; omega, hsame _ hr (by show w.heap.size ≠ gR; omega) (by show w.heap.size ≠ b6; omega)⟩, ⟨⟨?_, ?_⟩, ?_⟩, by omega⟩
        · rw [hl]; exact HV4.out.set _
        · rw [hl, show rowOf E (pre ++ [x]) = rowOf E pre ++ (E x).cs from by simp [rowOf]]
          exact row_grown HO4.out HS.out (by omega)
        · exact ((hB.alloc hB.size _).grown HG4.out (Nat.le_trans hB.size (by rw [World.size_alloc]; omega)) (fun k e => by injection e with e; omega)).grown HS.out (by omega) (fun k e => by injection e with e; omega)
end Go.Proofs.Ythgpolddbadfmaa
