import Derived.Test.YtnbpgoacooddjaaWb
import Derived.Deep.Slices
import Derived.Deep.Fields
import Derived.WalkKit
import Derived.ProofKit
import Derived.OpenShut
import Derived.Deep.QuietTactic
import Derived.BigQuiet
import Derived.Outline
import Derived.WalkSmall
import Derived.WalkLawsBesides
import Derived.WalkSpells
import Derived.BigGuardPart
import Derived.RegionTactic
import Derived.Deep.RegionHeld3
import Derived.Lib.Hide
import Derived.Deep.MidRow
import Derived.Below
import Derived.Deep.RegionWith
import Derived.Deep.OwnRows
import Derived.Deep.AppendLies
import Derived.Deep.RegionLaw
import Derived.Laws.BitsAllLaws
import Derived.Laws.BitsLemmas
import Derived.Deep.CutBlock
import Derived.Deep.DeepCutAuto
import Derived.Deep.CutRange
namespace Go.Proofs.Ytnbpgoacooddjaa
open Go.ChangeShapes Go.WideShapes Go.ChangeAt Go.RowKit Go.Deep
set_option linter.unusedVariables false
section
variable {H : Type} {enc : TypeId × Value → H} {W : World} {base : Nat} {spare : Nat → Bool} {held : Bool}
set_option maxRecDepth 100000 in
/-- Registers that stand in a row that comes in. -/
theorem trod_regs {n : Nat} {l : List Value} {x : DataW H × List MemPlace} (hf : DataW.trod enc Try.prog W base spare held n 26 l = some x) (hl : l.length = 36) :
    ∃ r : Rg, r.within ∧ l = r.arr.toList := by
  obtain ⟨xs, n, _, _, _, hlen, hg⟩ := DataW.trod_struct Try.underlying26 hf
  have hlen' : xs.length = 6 := hlen
  have some_of : ∀ j, j < 6 → ∃ y, xs[j]? = some y := fun j hj => ⟨xs[j]'(by omega), List.getElem?_eq_getElem _⟩
  have c23 : Try.prog.cellsOf 24 = 31 := by kernel_rfl
  have c22 : Try.prog.cellsOf 23 = 1 := by kernel_rfl
  have c4 : Try.prog.cellsOf 4 = 1 := by kernel_rfl
  have kx : ∀ i, i < 31 → ∃ z, l[i]? = some (.int .u64 z) ∧ 0 ≤ z ∧ z < 18446744073709551616 := by
    obtain ⟨y, hy⟩ := some_of 0 (by decide)
    have q : DataW.trod enc Try.prog W base spare held n 24 ((l.drop 0).take (Try.prog.cellsOf 24)) = xs[0]? := hg 0 _ rfl
    rw [c23, hy] at q
    obtain ⟨ys, m, _, _, _, hyl, hyg⟩ := DataW.trod_array Try.underlying24 q
    intro i hi
    have q2 := hyg i hi
    rw [c22, Nat.mul_one, List.getElem?_eq_getElem (by omega)] at q2
    obtain ⟨z, hz, _, hw⟩ := DataW.trod_int Try.underlying23 q2
    refine ⟨z, ?_, u64_bds hw⟩
    have h0 : ((((l.drop 0).take 31).drop i).take 1)[0]? = some (.int .u64 z) := by rw [hz]; rfl
    simpa [List.getElem?_take, List.getElem?_drop, hi] using h0
  have ks : ∃ z, l[31]? = some (.int .u64 z) ∧ 0 ≤ z ∧ z < 18446744073709551616 := by
    obtain ⟨y, hy⟩ := some_of 1 (by decide)
    have q : DataW.trod enc Try.prog W base spare held n 23 ((l.drop 31).take (Try.prog.cellsOf 23)) = xs[1]? := hg 1 _ rfl
    rw [c22, hy] at q
    obtain ⟨z, hz, _, hw⟩ := DataW.trod_int Try.underlying23 q
    refine ⟨z, ?_, u64_bds hw⟩
    have h0 : ((l.drop 31).take 1)[0]? = some (.int .u64 z) := by rw [hz]; rfl
    simpa [List.getElem?_take, List.getElem?_drop] using h0
  have kb : ∀ j, 2 ≤ j → j < 6 → ∃ z, l[30 + j]? = some (.bool z) := by
    intro j h2 h6
    obtain ⟨y, hy⟩ := some_of j h6
    have q : DataW.trod enc Try.prog W base spare held n 4 ((l.drop (30 + j)).take 1) = some y := by
      have : j = 2 ∨ j = 3 ∨ j = 4 ∨ j = 5 := by omega
      rcases this with rfl | rfl | rfl | rfl
      · have q : DataW.trod enc Try.prog W base spare held n 4 ((l.drop 32).take (Try.prog.cellsOf 4)) = xs[2]? := hg 2 _ rfl
        rw [c4, hy] at q; exact q
      · have q : DataW.trod enc Try.prog W base spare held n 4 ((l.drop 33).take (Try.prog.cellsOf 4)) = xs[3]? := hg 3 _ rfl
        rw [c4, hy] at q; exact q
      · have q : DataW.trod enc Try.prog W base spare held n 4 ((l.drop 34).take (Try.prog.cellsOf 4)) = xs[4]? := hg 4 _ rfl
        rw [c4, hy] at q; exact q
      · have q : DataW.trod enc Try.prog W base spare held n 4 ((l.drop 35).take (Try.prog.cellsOf 4)) = xs[5]? := hg 5 _ rfl
        rw [c4, hy] at q; exact q
    obtain ⟨z, hz, _⟩ := DataW.trod_bool Try.underlying4 q
    refine ⟨z, ?_⟩
    have h0 : ((l.drop (30 + j)).take 1)[0]? = some (.bool z) := by rw [hz]; rfl
    simpa [List.getElem?_take, List.getElem?_drop] using h0
  obtain ⟨sp, hsp, sp1, sp2⟩ := ks
  obtain ⟨bn, hn⟩ := kb 2 (by decide) (by decide)
  obtain ⟨bz, hz⟩ := kb 3 (by decide) (by decide)
  obtain ⟨bc, hc⟩ := kb 4 (by decide) (by decide)
  obtain ⟨bv, hv'⟩ := kb 5 (by decide) (by decide)
  refine ⟨⟨intAt l, sp, bn, bz, bc, bv⟩, ⟨fun i hi => ?_, sp1, sp2⟩, ?_⟩
  · obtain ⟨z, h1, h2, h3⟩ := kx i hi
    have : intAt l i = z := by unfold intAt; rw [h1]
    show 0 ≤ intAt l i ∧ intAt l i < _
    omega
  · apply List.ext_getElem?
    intro k
    refine Eq.trans ?_ Array.getElem?_toList.symm
    rcases Nat.lt_or_ge k 31 with hk | hk
    · rw [Rg.at _ k hk]
      obtain ⟨z, h1, h2, h3⟩ := kx k hk
      show l[k]? = some (.int .u64 (intAt l k))
      have : intAt l k = z := by unfold intAt; rw [h1]
      rw [this, h1]
    · rcases Nat.lt_or_ge k 36 with hk2 | hk2
      · rcases (show k = 31 ∨ k = 32 ∨ k = 33 ∨ k = 34 ∨ k = 35 by omega) with rfl | rfl | rfl | rfl | rfl
        · rw [Rg.at31]; exact hsp
        · rw [Rg.at32]; exact hn
        · rw [Rg.at33]; exact hz
        · rw [Rg.at34]; exact hc
        · rw [Rg.at35]; exact hv'
      · rw [List.getElem?_eq_none (by omega), Array.getElem?_eq_none (by rw [Rg.size]; omega)]
theorem trod_ins7 {n : Nat} {l : List Value} {x : DataW H × List MemPlace} (hf : DataW.trod enc Try.prog W base spare held n 29 l = some x) :
    ∃ c : Nat → Int, ∀ j, j < 7 → l[j]? = some (.int .i64 (c j)) := by
  obtain ⟨xs, n, _, _, _, hlen, hg⟩ := DataW.trod_struct Try.underlying29 hf
  have hlen' : xs.length = 7 := hlen
  have some_of : ∀ j, j < 7 → ∃ y, xs[j]? = some y := fun j hj => ⟨xs[j]'(by omega), List.getElem?_eq_getElem _⟩
  have c3 : Try.prog.cellsOf 3 = 1 := by kernel_rfl
  have c2 : Try.prog.cellsOf 2 = 1 := by kernel_rfl
  have key : ∀ j, j < 7 → ∃ z, l[j]? = some (.int .i64 z) := by
    intro j hj
    obtain ⟨y, hy⟩ := some_of j hj
    have fin : ∀ t, Try.prog.underlying t = some (.int .i64) → DataW.trod enc Try.prog W base spare held n t ((l.drop j).take 1) = some y → ∃ z, l[j]? = some (.int .i64 z) := by
      intro t ht q
      obtain ⟨z, hz, _⟩ := DataW.trod_int ht q
      refine ⟨z, ?_⟩
      have h0 : ((l.drop j).take 1)[0]? = some (.int .i64 z) := by rw [hz]; rfl
      simpa [List.getElem?_take, List.getElem?_drop] using h0
    have : j = 0 ∨ j = 1 ∨ j = 2 ∨ j = 3 ∨ j = 4 ∨ j = 5 ∨ j = 6 := by omega
    rcases this with rfl | rfl | rfl | rfl | rfl | rfl | rfl
    · have q : DataW.trod enc Try.prog W base spare held n 3 ((l.drop 0).take (Try.prog.cellsOf 3)) = xs[0]? := hg 0 _ rfl
      rw [c3, hy] at q; exact fin 3 Try.underlying3 q
    · have q : DataW.trod enc Try.prog W base spare held n 3 ((l.drop 1).take (Try.prog.cellsOf 3)) = xs[1]? := hg 1 _ rfl
      rw [c3, hy] at q; exact fin 3 Try.underlying3 q
    · have q : DataW.trod enc Try.prog W base spare held n 3 ((l.drop 2).take (Try.prog.cellsOf 3)) = xs[2]? := hg 2 _ rfl
      rw [c3, hy] at q; exact fin 3 Try.underlying3 q
    · have q : DataW.trod enc Try.prog W base spare held n 3 ((l.drop 3).take (Try.prog.cellsOf 3)) = xs[3]? := hg 3 _ rfl
      rw [c3, hy] at q; exact fin 3 Try.underlying3 q
    · have q : DataW.trod enc Try.prog W base spare held n 3 ((l.drop 4).take (Try.prog.cellsOf 3)) = xs[4]? := hg 4 _ rfl
      rw [c3, hy] at q; exact fin 3 Try.underlying3 q
    · have q : DataW.trod enc Try.prog W base spare held n 3 ((l.drop 5).take (Try.prog.cellsOf 3)) = xs[5]? := hg 5 _ rfl
      rw [c3, hy] at q; exact fin 3 Try.underlying3 q
    · have q : DataW.trod enc Try.prog W base spare held n 2 ((l.drop 6).take (Try.prog.cellsOf 2)) = xs[6]? := hg 6 _ rfl
      rw [c2, hy] at q; exact fin 2 Try.underlying2 q
  have key' : ∀ j, ∃ z, j < 7 → l[j]? = some (.int .i64 z) := fun j => by
    by_cases hj : j < 7
    · obtain ⟨z, hz⟩ := key j hj; exact ⟨z, fun _ => hz⟩
    · exact ⟨0, fun h => absurd h hj⟩
  exact ⟨fun j => Classical.choose (key' j), fun j hj => Classical.choose_spec (key' j) hj⟩
/-- An instruction of a window that comes in. -/
theorem trod_wi {n : Nat} {l : List Value} {x : DataW H × List MemPlace} (hf : DataW.trod enc Try.prog W base spare held n 31 l = some x) (hl : l.length = 46) :
    ∃ I : WI, I.r.within ∧ l = I.arr.toList := by
  obtain ⟨xs, n, _, _, _, hlen, hg⟩ := DataW.trod_struct Try.underlying31 hf
  have hlen' : xs.length = 5 := hlen
  have some_of : ∀ j, j < 5 → ∃ y, xs[j]? = some y := fun j hj => ⟨xs[j]'(by omega), List.getElem?_eq_getElem _⟩
  have c23 : Try.prog.cellsOf 23 = 1 := by kernel_rfl
  have c29 : Try.prog.cellsOf 29 = 7 := by kernel_rfl
  have c26 : Try.prog.cellsOf 26 = 36 := by kernel_rfl
  have c4 : Try.prog.cellsOf 4 = 1 := by kernel_rfl
  have k0 : ∃ z, l[0]? = some (.int .u64 z) := by
    obtain ⟨y, hy⟩ := some_of 0 (by decide)
    have q : DataW.trod enc Try.prog W base spare held n 23 ((l.drop 0).take (Try.prog.cellsOf 23)) = xs[0]? := hg 0 _ rfl
    rw [c23, hy] at q
    obtain ⟨z, hz, _⟩ := DataW.trod_int Try.underlying23 q
    refine ⟨z, ?_⟩
    have h0 : ((l.drop 0).take 1)[0]? = some (.int .u64 z) := by rw [hz]; rfl
    simpa [List.getElem?_take, List.getElem?_drop] using h0
  have k8 : ∃ z, l[8]? = some (.int .u64 z) := by
    obtain ⟨y, hy⟩ := some_of 2 (by decide)
    have q : DataW.trod enc Try.prog W base spare held n 23 ((l.drop 8).take (Try.prog.cellsOf 23)) = xs[2]? := hg 2 _ rfl
    rw [c23, hy] at q
    obtain ⟨z, hz, _⟩ := DataW.trod_int Try.underlying23 q
    refine ⟨z, ?_⟩
    have h0 : ((l.drop 8).take 1)[0]? = some (.int .u64 z) := by rw [hz]; rfl
    simpa [List.getElem?_take, List.getElem?_drop] using h0
  have k9 : ∃ z, l[9]? = some (.bool z) := by
    obtain ⟨y, hy⟩ := some_of 3 (by decide)
    have q : DataW.trod enc Try.prog W base spare held n 4 ((l.drop 9).take (Try.prog.cellsOf 4)) = xs[3]? := hg 3 _ rfl
    rw [c4, hy] at q
    obtain ⟨z, hz, _⟩ := DataW.trod_bool Try.underlying4 q
    refine ⟨z, ?_⟩
    have h0 : ((l.drop 9).take 1)[0]? = some (.bool z) := by rw [hz]; rfl
    simpa [List.getElem?_take, List.getElem?_drop] using h0
  have k1 : ∃ c : Nat → Int, ∀ j, j < 7 → l[1 + j]? = some (.int .i64 (c j)) := by
    obtain ⟨y, hy⟩ := some_of 1 (by decide)
    have q : DataW.trod enc Try.prog W base spare held n 29 ((l.drop 1).take (Try.prog.cellsOf 29)) = xs[1]? := hg 1 _ rfl
    rw [c29, hy] at q
    obtain ⟨c, hc⟩ := trod_ins7 q
    refine ⟨c, fun j hj => ?_⟩
    have := hc j hj
    rw [Nat.add_comm 1 j]
    simpa [List.getElem?_take, List.getElem?_drop, hj] using this
  obtain ⟨r, hr, hre⟩ : ∃ r : Rg, r.within ∧ (l.drop 10).take 36 = r.arr.toList := by
    obtain ⟨y, hy⟩ := some_of 4 (by decide)
    have q : DataW.trod enc Try.prog W base spare held n 26 ((l.drop 10).take (Try.prog.cellsOf 26)) = xs[4]? := hg 4 _ rfl
    rw [c26, hy] at q
    exact trod_regs q (by simp; omega)
  obtain ⟨pc, hpc⟩ := k0
  obtain ⟨nx, hnx⟩ := k8
  obtain ⟨dn, hdn⟩ := k9
  obtain ⟨c, hc⟩ := k1
  refine ⟨⟨pc, c 0, c 1, c 2, c 3, c 4, c 5, c 6, nx, dn, r⟩, hr, ?_⟩
  apply List.ext_getElem?
  intro k
  refine Eq.trans ?_ Array.getElem?_toList.symm
  rcases Nat.lt_or_ge k 10 with hk | hk
  · rw [WI.lo _ k hk]
    have : k = 0 ∨ k = 1 ∨ k = 2 ∨ k = 3 ∨ k = 4 ∨ k = 5 ∨ k = 6 ∨ k = 7 ∨ k = 8 ∨ k = 9 := by omega
    rcases this with rfl | rfl | rfl | rfl | rfl | rfl | rfl | rfl | rfl | rfl
    · exact hpc
    · exact hc 0 (by decide)
    · exact hc 1 (by decide)
    · exact hc 2 (by decide)
    · exact hc 3 (by decide)
    · exact hc 4 (by decide)
    · exact hc 5 (by decide)
    · exact hc 6 (by decide)
    · exact hnx
    · exact hdn
  · obtain ⟨j, rfl⟩ : ∃ j, k = 10 + j := ⟨k - 10, by omega⟩
    rw [WI.hi]
    show l[10 + j]? = r.arr[j]?
    rw [← Array.getElem?_toList, ← hre, List.getElem?_take, List.getElem?_drop]
    split
    · rfl
    · exact List.getElem?_eq_none (by omega)
/-- A window that comes in. -/
def SrcW (W : World) (a : Option Addr) (n : Nat) (F : Nat → WI) : Prop := n = 0 ∨ ∃ b off, a = some ⟨b, off, none⟩ ∧ WnC W b off n F
theorem wi0 : ∃ I : WI, I.r.within := ⟨⟨0, 0, 0, 0, 0, 0, 0, 0, 0, false, ⟨fun _ => 0, 0, false, false, false, false⟩⟩, ⟨fun _ _ => ⟨Int.le_refl 0, (by decide : (0 : Int) < 18446744073709551616)⟩, by decide, by decide⟩⟩
theorem win_open {a : Option Addr} {n cap : Nat} {d : DataW H} {p : List MemPlace}
    (h : DataW.Trod enc Try.prog W base spare held 22 (.slice a n cap) d p) : n ≤ cap ∧ cap ≤ maxLen ∧ ∃ F, SrcW W a n F ∧ ∀ j, (F j).r.within := by
  obtain ⟨I0, hI0⟩ := wi0
  obtain ⟨fuel, hf⟩ := h
  rcases open_slice Try.underlying22 hf with ⟨hcs, _⟩ | ⟨x, l, c, m, k, D, Pl, hcs, _, hl, hm, hmm, _, hi⟩
  · simp [Value.cells] at hcs
    obtain ⟨rfl, rfl, rfl⟩ := hcs
    exact ⟨Nat.le_refl _, by unfold maxLen; omega, fun _ => I0, .inl rfl, fun _ => hI0⟩
  · simp [Value.cells] at hcs
    obtain ⟨rfl, rfl, rfl⟩ := hcs
    refine ⟨hl, hm, ?_⟩
    by_cases h0 : n = 0
    · exact ⟨fun _ => I0, .inl h0, fun _ => hI0⟩
    · have hlm : n ≤ m := by rw [hmm]; split <;> omega
      have c31 : Try.prog.cellsOf 31 = 46 := by kernel_rfl
      have key : ∀ i, i < n → ∃ I : WI, I.r.within ∧ ∀ k v, I.arr[k]? = some v → W.cell? (x.add (i * 46 + k)) = some v := by
        intro i hin
        obtain ⟨cs', hc, ht⟩ := hi i (by omega)
        rw [c31] at hc
        obtain ⟨_, hcl, hat⟩ := World.cells?_some hc
        obtain ⟨I, hI, he⟩ := trod_wi ht hcl
        refine ⟨I, hI, fun k v hv => ?_⟩
        have hk : k < 46 := by
          have := (Array.getElem?_eq_some_iff.1 hv).1
          rwa [I.size] at this
        have h2 := hat k hk
        rw [he, Array.getElem?_toList, hv] at h2
        rw [← Go.Deep.add_add]
        exact h2
      obtain ⟨b, off, spot⟩ := x
      obtain ⟨I, _, z⟩ := key 0 (by omega)
      have z0 := z 0 _ (I.lo 0 (by decide))
      have hspot : spot = none := by simpa [Addr.add] using World.cell?_spot z0
      subst hspot
      have hb : b < W.heap.size := World.block_lt_of_cell? W ⟨b, off, none⟩ (by simpa [Addr.add] using z0)
      have key' : ∀ i, ∃ I : WI, I.r.within ∧ (i < n → ∀ k v, I.arr[k]? = some v → W.cell? ⟨b, off + i * 46 + k, none⟩ = some v) := by
        intro i
        by_cases hin : i < n
        · obtain ⟨I, h1, h2⟩ := key i hin
          refine ⟨I, h1, fun _ k v hv => ?_⟩
          have h3 := h2 k v hv
          rw [Go.WideShapes.add_plain] at h3
          rw [Nat.add_assoc]
          exact h3
        · exact ⟨I0, hI0, fun h => absurd h hin⟩
      exact ⟨fun i => Classical.choose (key' i), .inr ⟨b, off, rfl, hb, fun i hin => (Classical.choose_spec (key' i)).2 hin⟩, fun i => (Classical.choose_spec (key' i)).1⟩
end
end Go.Proofs.Ytnbpgoacooddjaa
namespace Go.Proofs.Ytnbpgoacooddjaa
open Go.ChangeShapes Go.WideShapes Go.ChangeAt Go.RowKit
set_option linter.unusedVariables false
attribute [local go_sem] rowAt_drew rowAt_drewN
theorem WI.ones (I : WI) : I.arr.all (·.oneCell') = true := by
  unfold WI.arr
  rw [Array.all_append, Rg.one]
  simp [Value.oneCell']
theorem SrcW.below {w w' : World} {a : Option Addr} {n : Nat} {F : Nat → WI} (h : SrcW w a n F) (hb : Below w.heap.size w w') : SrcW w' a n F := by
  rcases h with h | ⟨b, off, h1, h2⟩
  · exact .inl h
  · exact .inr ⟨b, off, h1, h2.below hb⟩
set_option maxRecDepth 100000 in
set_option maxHeartbeats 4000000 in
theorem retires_c (F : Nat → WI) (a : Option Addr) (n cap : Nat) (w : World) (HW : Hid (SrcW w a n F)) (hd : ∀ j, j < n → (F j).dn = true) (hcap : n ≤ cap) (hn : n ≤ 1000000) :
    Calls Try.prog 15 #[.slice a n cap] w fun e w' => e = .returned (.int .i64 n) ∧ Below w.heap.size w w' := by
  have HD := Lib.hid hd
  clear hd
  go_enter Try.func15, Try.ntmps15
  go_wp2
  go_loopw [7] (fun s7 W => ∃ j : Nat, j ≤ n ∧ s7 = .int .i64 j ∧ Hid (Below w.heap.size w W)) (fun s7 _ => n - (intOf s7).toNat)
  case atStart => exact ⟨0, Nat.zero_le _, rfl, Lib.hid (Below.refl _ _)⟩
  case round =>
    obtain ⟨j, hj, rfl, HB⟩ := hrel
    by_cases hlt : j < n
    · obtain ⟨b, off, rfl, hw⟩ : ∃ b off, a = some ⟨b, off, none⟩ ∧ WnC w b off n F := by
        rcases HW.out with h | h
        · omega
        · exact h
      have hwr := hw.below HB.out
      have HWr := Lib.hid hwr
      have hld := hwr.load j hlt
      have HLD := Lib.hid hld
      clear hw hwr hld
      have hdj := HD.out j hlt
      have HDJ := Lib.hid hdj
      clear hdj
      have c9 : (F j).arr[9]? = some (.bool true) := by
        rw [(F j).lo 9 (by decide), HDJ.out]; rfl
      have HC9 := Lib.hid c9
      clear c9
      go_wp2_with (first | (refine wpl_load rfl 31 _ rfl b (off + j * 46) rfl (F j).arr HLD.out ?_) | (refine wpl_store rfl 31 _ _ rfl wr.heap.size (F j).arr #[.int .u64 0, .int .i64 0, .int .i64 0, .int .i64 0, .int .i64 0, .int .i64 0, .int .i64 0, .int .i64 0, .int .u64 0, .bool false, .int .u64 0, .int .u64 0, .int .u64 0, .int .u64 0, .int .u64 0, .int .u64 0, .int .u64 0, .int .u64 0, .int .u64 0, .int .u64 0, .int .u64 0, .int .u64 0, .int .u64 0, .int .u64 0, .int .u64 0, .int .u64 0, .int .u64 0, .int .u64 0, .int .u64 0, .int .u64 0, .int .u64 0, .int .u64 0, .int .u64 0, .int .u64 0, .int .u64 0, .int .u64 0, .int .u64 0, .int .u64 0, .int .u64 0, .int .u64 0, .int .u64 0, .int .u64 0, .bool false, .bool false, .bool false, .bool false] rfl rfl (rowAt_new _ _ _) (by rw [WI.size]; exact info31) (by rw [WI.size]; rfl) (WI.ones _) ?_; intro w3 hrow hg; have cd := (rowAt_cell hrow 9).trans HC9.out; have HB3 := Lib.hid (grown_below (HB.out.alloc HB.out.size (.cells #[.int .u64 0, .int .i64 0, .int .i64 0, .int .i64 0, .int .i64 0, .int .i64 0, .int .i64 0, .int .i64 0, .int .u64 0, .bool false, .int .u64 0, .int .u64 0, .int .u64 0, .int .u64 0, .int .u64 0, .int .u64 0, .int .u64 0, .int .u64 0, .int .u64 0, .int .u64 0, .int .u64 0, .int .u64 0, .int .u64 0, .int .u64 0, .int .u64 0, .int .u64 0, .int .u64 0, .int .u64 0, .int .u64 0, .int .u64 0, .int .u64 0, .int .u64 0, .int .u64 0, .int .u64 0, .int .u64 0, .int .u64 0, .int .u64 0, .int .u64 0, .int .u64 0, .int .u64 0, .int .u64 0, .int .u64 0, .bool false, .bool false, .bool false, .bool false] 31)) hg HB.out.size); clear hrow hg))
      go_roundw
      case rel => exact ⟨j + 1, by omega, by go_num, HB3⟩
      case measure => simp [intOf]; omega
    · obtain rfl : n = j := by omega
      go_wp2
      go_ret
      exact ⟨rfl, HB.out⟩
set_option maxRecDepth 100000 in
set_option maxHeartbeats 4000000 in
theorem fetches_c (F : Nat → WI) (b cap : Nat) (w : World) (HW : Hid (WnC w b 0 2 F)) (hd : (F 1).dn = false) (ho : (F 1).op = 28) (hcap : 2 ≤ cap) :
    Calls Try.prog 68 #[.slice (some ⟨b, 0, none⟩) 2 cap] w fun e w' => e = .returned (.bool true) ∧ Below w.heap.size w w' := by
  have cd := HW.out.dn 1 (by decide)
  have co := (HW.out.ins 1 (by decide)).1
  rw [hd] at cd
  rw [ho] at co
  simp only [Nat.zero_add, Nat.one_mul, Nat.reduceAdd] at cd co
  go_enter Try.func68, Try.ntmps68
  go_wp2
  go_ret
  exact ⟨rfl, Below.refl _ _⟩
end Go.Proofs.Ytnbpgoacooddjaa
namespace Go.Proofs.Ytnbpgoacooddjaa
open Go.ChangeShapes Go.WideShapes Go.ChangeAt Go.RowKit
set_option linter.unusedVariables false
attribute [local go_sem] rowAt_drew rowAt_drewN
/-- The chapter's example. -/
def Rz : Rg := ⟨fun _ => 0, 0, false, false, false, false⟩
theorem Rz_within : Rz.within := ⟨fun _ _ => ⟨Int.le_refl 0, (by decide : (0 : Int) < 18446744073709551616)⟩, by decide, by decide⟩
def KA : WI := ⟨0, 29, 0, 1, 0, 0, 0, 0, 4, false, Rz⟩
def KS : WI := ⟨0, 34, 0, 1, 0, 0, 0, 0, 4, false, Rz⟩
def KB : WI := ⟨4, 28, 2, 1, 0, 0, 0, 0, 8, false, Rz⟩
def KF (s : WI) : Nat → WI
  | 0 => s
  | _ + 1 => KB
theorem Rz_arr : Rz.arr = #[.int .u64 0, .int .u64 0, .int .u64 0, .int .u64 0, .int .u64 0, .int .u64 0, .int .u64 0, .int .u64 0, .int .u64 0, .int .u64 0, .int .u64 0, .int .u64 0, .int .u64 0, .int .u64 0, .int .u64 0, .int .u64 0, .int .u64 0, .int .u64 0, .int .u64 0, .int .u64 0, .int .u64 0, .int .u64 0, .int .u64 0, .int .u64 0, .int .u64 0, .int .u64 0, .int .u64 0, .int .u64 0, .int .u64 0, .int .u64 0, .int .u64 0, .int .u64 0, .bool false, .bool false, .bool false, .bool false] := by kernel_rfl
theorem KA_arr : KA.arr ++ KB.arr = #[.int .u64 0, .int .i64 29, .int .i64 0, .int .i64 1, .int .i64 0, .int .i64 0, .int .i64 0, .int .i64 0, .int .u64 4, .bool false, .int .u64 0, .int .u64 0, .int .u64 0, .int .u64 0, .int .u64 0, .int .u64 0, .int .u64 0, .int .u64 0, .int .u64 0, .int .u64 0, .int .u64 0, .int .u64 0, .int .u64 0, .int .u64 0, .int .u64 0, .int .u64 0, .int .u64 0, .int .u64 0, .int .u64 0, .int .u64 0, .int .u64 0, .int .u64 0, .int .u64 0, .int .u64 0, .int .u64 0, .int .u64 0, .int .u64 0, .int .u64 0, .int .u64 0, .int .u64 0, .int .u64 0, .int .u64 0, .bool false, .bool false, .bool false, .bool false, .int .u64 4, .int .i64 28, .int .i64 2, .int .i64 1, .int .i64 0, .int .i64 0, .int .i64 0, .int .i64 0, .int .u64 8, .bool false, .int .u64 0, .int .u64 0, .int .u64 0, .int .u64 0, .int .u64 0, .int .u64 0, .int .u64 0, .int .u64 0, .int .u64 0, .int .u64 0, .int .u64 0, .int .u64 0, .int .u64 0, .int .u64 0, .int .u64 0, .int .u64 0, .int .u64 0, .int .u64 0, .int .u64 0, .int .u64 0, .int .u64 0, .int .u64 0, .int .u64 0, .int .u64 0, .int .u64 0, .int .u64 0, .int .u64 0, .int .u64 0, .int .u64 0, .int .u64 0, .int .u64 0, .int .u64 0, .bool false, .bool false, .bool false, .bool false] := by kernel_rfl
theorem KS_arr : (KA.arr ++ KB.arr).setIfInBounds 1 (.int .i64 34) = KS.arr ++ KB.arr := by kernel_rfl
theorem wnC_two {W : World} {b : Nat} {s : WI} (h : rowAt W b = some (s.arr ++ KB.arr)) : WnC W b 0 2 (KF s) := by
  refine ⟨rowAt_lt h, fun j hj k v hv => ?_⟩
  rw [Nat.zero_add, rowAt_cell h]
  have hk : k < 46 := by
    have := (Array.getElem?_eq_some_iff.1 hv).1
    rwa [WI.size] at this
  rcases (show j = 0 ∨ j = 1 by omega) with rfl | rfl
  · rw [Nat.zero_mul, Nat.zero_add, Array.getElem?_append_left (by rw [WI.size]; exact hk)]
    exact hv
  · rw [Nat.one_mul, Array.getElem?_append_right (by rw [WI.size]; omega), WI.size, Nat.add_sub_cancel_left]
    exact hv
theorem row_lt2 {W : World} {b : Nat} {s : WI} (h : rowAt W b = some (s.arr ++ KB.arr)) (k : Nat) (v : Value) (hv : s.arr[k]? = some v) : W.cell? ⟨b, k, none⟩ = some v := by
  rw [rowAt_cell h, Array.getElem?_append_left (Array.getElem?_eq_some_iff.1 hv).1]
  exact hv
set_option maxRecDepth 100000 in
set_option maxHeartbeats 4000000 in
theorem known_walk (w : World)
    (H16 : Hid (∀ b W, WnC W b 0 2 (KF KA) → Calls Try.prog 16 #[.slice (some ⟨b, 0, none⟩) 2 2, .int .i64 1, .agg Rz.arr] W fun e w' => e = .returned (.tuple #[.int .i64 0, .bool true]) ∧ Below W.heap.size W w'))
    (H14 : Hid (∀ b W, WnC W b 0 2 (KF KA) → Calls Try.prog 14 #[.slice (some ⟨b, 0, none⟩) 2 2, .int .i64 1, .agg Rz.arr] W fun e w' => e = .returned (.int .i64 0) ∧ Below W.heap.size W w'))
    (H15 : Hid (∀ b W, WnC W b 0 2 (KF KS) → Calls Try.prog 14 #[.slice (some ⟨b, 0, none⟩) 2 2, .int .i64 1, .agg Rz.arr] W fun e w' => e = .returned (.int .i64 9) ∧ Below W.heap.size W w')) :
    Calls Try.prog 13 #[] w fun e w' => e = .returned (.bool true) ∧ Below w.heap.size w w' := by
  have HR : Hid (rowAt (w.alloc (.cells #[.int .u64 0, .int .i64 29, .int .i64 0, .int .i64 1, .int .i64 0, .int .i64 0, .int .i64 0, .int .i64 0, .int .u64 4, .bool false, .int .u64 0, .int .u64 0, .int .u64 0, .int .u64 0, .int .u64 0, .int .u64 0, .int .u64 0, .int .u64 0, .int .u64 0, .int .u64 0, .int .u64 0, .int .u64 0, .int .u64 0, .int .u64 0, .int .u64 0, .int .u64 0, .int .u64 0, .int .u64 0, .int .u64 0, .int .u64 0, .int .u64 0, .int .u64 0, .int .u64 0, .int .u64 0, .int .u64 0, .int .u64 0, .int .u64 0, .int .u64 0, .int .u64 0, .int .u64 0, .int .u64 0, .int .u64 0, .bool false, .bool false, .bool false, .bool false, .int .u64 4, .int .i64 28, .int .i64 2, .int .i64 1, .int .i64 0, .int .i64 0, .int .i64 0, .int .i64 0, .int .u64 8, .bool false, .int .u64 0, .int .u64 0, .int .u64 0, .int .u64 0, .int .u64 0, .int .u64 0, .int .u64 0, .int .u64 0, .int .u64 0, .int .u64 0, .int .u64 0, .int .u64 0, .int .u64 0, .int .u64 0, .int .u64 0, .int .u64 0, .int .u64 0, .int .u64 0, .int .u64 0, .int .u64 0, .int .u64 0, .int .u64 0, .int .u64 0, .int .u64 0, .int .u64 0, .int .u64 0, .int .u64 0, .int .u64 0, .int .u64 0, .int .u64 0, .int .u64 0, .int .u64 0, .bool false, .bool false, .bool false, .bool false] 31)) w.heap.size = some (KA.arr ++ KB.arr)) := Lib.hid (by rw [KA_arr]; exact rowAt_new _ _ _)
  have HL : Hid (Below w.heap.size w (w.alloc (.cells #[.int .u64 0, .int .i64 29, .int .i64 0, .int .i64 1, .int .i64 0, .int .i64 0, .int .i64 0, .int .i64 0, .int .u64 4, .bool false, .int .u64 0, .int .u64 0, .int .u64 0, .int .u64 0, .int .u64 0, .int .u64 0, .int .u64 0, .int .u64 0, .int .u64 0, .int .u64 0, .int .u64 0, .int .u64 0, .int .u64 0, .int .u64 0, .int .u64 0, .int .u64 0, .int .u64 0, .int .u64 0, .int .u64 0, .int .u64 0, .int .u64 0, .int .u64 0, .int .u64 0, .int .u64 0, .int .u64 0, .int .u64 0, .int .u64 0, .int .u64 0, .int .u64 0, .int .u64 0, .int .u64 0, .int .u64 0, .bool false, .bool false, .bool false, .bool false, .int .u64 4, .int .i64 28, .int .i64 2, .int .i64 1, .int .i64 0, .int .i64 0, .int .i64 0, .int .i64 0, .int .u64 8, .bool false, .int .u64 0, .int .u64 0, .int .u64 0, .int .u64 0, .int .u64 0, .int .u64 0, .int .u64 0, .int .u64 0, .int .u64 0, .int .u64 0, .int .u64 0, .int .u64 0, .int .u64 0, .int .u64 0, .int .u64 0, .int .u64 0, .int .u64 0, .int .u64 0, .int .u64 0, .int .u64 0, .int .u64 0, .int .u64 0, .int .u64 0, .int .u64 0, .int .u64 0, .int .u64 0, .int .u64 0, .int .u64 0, .int .u64 0, .int .u64 0, .int .u64 0, .int .u64 0, .bool false, .bool false, .bool false, .bool false] 31))) := Lib.hid ((Below.refl _ _).alloc (Nat.le_refl _) _)
  rw [Rz_arr] at H16 H14 H15
  go_enter Try.func13, Try.ntmps13
  go_upto_region 2 with (fail)
  generalize hW0 : w.alloc (.cells #[.int .u64 0, .int .i64 29, .int .i64 0, .int .i64 1, .int .i64 0, .int .i64 0, .int .i64 0, .int .i64 0, .int .u64 4, .bool false, .int .u64 0, .int .u64 0, .int .u64 0, .int .u64 0, .int .u64 0, .int .u64 0, .int .u64 0, .int .u64 0, .int .u64 0, .int .u64 0, .int .u64 0, .int .u64 0, .int .u64 0, .int .u64 0, .int .u64 0, .int .u64 0, .int .u64 0, .int .u64 0, .int .u64 0, .int .u64 0, .int .u64 0, .int .u64 0, .int .u64 0, .int .u64 0, .int .u64 0, .int .u64 0, .int .u64 0, .int .u64 0, .int .u64 0, .int .u64 0, .int .u64 0, .int .u64 0, .bool false, .bool false, .bool false, .bool false, .int .u64 4, .int .i64 28, .int .i64 2, .int .i64 1, .int .i64 0, .int .i64 0, .int .i64 0, .int .i64 0, .int .u64 8, .bool false, .int .u64 0, .int .u64 0, .int .u64 0, .int .u64 0, .int .u64 0, .int .u64 0, .int .u64 0, .int .u64 0, .int .u64 0, .int .u64 0, .int .u64 0, .int .u64 0, .int .u64 0, .int .u64 0, .int .u64 0, .int .u64 0, .int .u64 0, .int .u64 0, .int .u64 0, .int .u64 0, .int .u64 0, .int .u64 0, .int .u64 0, .int .u64 0, .int .u64 0, .int .u64 0, .int .u64 0, .int .u64 0, .int .u64 0, .int .u64 0, .int .u64 0, .int .u64 0, .bool false, .bool false, .bool false, .bool false] 31) = W0 at HR HL ⊢
  obtain ⟨b, hb⟩ : ∃ b, w.heap.size = b := ⟨_, rfl⟩
  have HLb := Lib.hid (Nat.le_of_eq hb)
  rw [hb] at HR
  try rw [hb]
  clear hb hW0
  go_wp2_with (first | (go_at_call 16; refine (H16.out _ _ (wnC_two HR.out)).mono ?_; rintro e w2 ⟨rfl, hb2⟩; have HR2 := Lib.hid (rowAt_below HR.out hb2 rfl); have HL2 := Lib.hid (below_step HL.out hb2 rfl rfl rfl rfl); clear hb2 HR HL) | (go_at_call 14; refine (H14.out _ _ (wnC_two HR2.out)).mono ?_; rintro e w3 ⟨rfl, hb3⟩; have HR3 := Lib.hid (rowAt_below HR2.out hb3 rfl); have HL3 := Lib.hid (below_step HL2.out hb3 rfl rfl rfl rfl); have cb := row_lt2 HR3.out 1 (.int .i64 29) rfl; have fb := rowAt_frz HR3.out 1; have HR4 := Lib.hid (rowAt_set HR3.out 1 (.int .i64 34)); have HL4 := Lib.hid (HL3.out.setCell (p := ⟨b, 1, none⟩) HLb.out (.int .i64 34)); rw [KS_arr] at HR4; clear hb3 HR2 HL2) | (go_at_call 14; refine (H15.out _ _ (wnC_two HR4.out)).mono ?_; rintro e w5 ⟨rfl, hb5⟩; have HR5 := Lib.hid (rowAt_below HR4.out hb5 rfl); have HL5 := Lib.hid (below_step HL4.out hb5 rfl rfl rfl rfl); clear hb5) | (go_at_call 68; refine (fetches_c (KF KS) b 2 _ (Lib.hid (wnC_two HR5.out)) rfl rfl (Nat.le_refl _)).mono ?_; rintro e w6 ⟨rfl, hb6⟩; have HL6 := Lib.hid (below_step HL5.out hb6 rfl rfl rfl rfl); clear hb6))
  go_ret
  exact ⟨rfl, HL6.out⟩
end Go.Proofs.Ytnbpgoacooddjaa
namespace Go.Proofs.Ytnbpgoacooddjaa
open Go.ChangeShapes Go.WideShapes Go.ChangeAt Go.RowKit
set_option linter.unusedVariables false
attribute [local go_sem] rowAt_drew rowAt_drewN
/-- What May answers. -/
def MayP (F : Nat → WI) (base : Rg) (n cap : Nat) (mv : Nat → Int) : Prop := ∀ (b off i : Nat) (V : World), WnC V b off n F → i < n → Calls Try.prog 14 #[.slice (some ⟨b, off, none⟩) n cap, .int .i64 i, .agg base.arr] V fun e w' => e = .returned (.int .i64 (mv i)) ∧ Below V.heap.size V w'
def KnoP : Prop := ∀ V : World, Calls Try.prog 13 #[] V fun e w' => e = .returned (.bool true) ∧ Below V.heap.size V w'
theorem SrcW.some {w : World} {a : Option Addr} {n : Nat} {F : Nat → WI} (h : SrcW w a n F) (hn : 0 < n) : ∃ b off, a = some ⟨b, off, none⟩ ∧ WnC w b off n F := by
  rcases h with h | h
  · omega
  · exact h
set_option maxRecDepth 100000 in
set_option maxHeartbeats 4000000 in
theorem first_walk (F : Nat → WI) (base : Rg) (a : Option Addr) (n cap : Nat) (w : World) (HW : Hid (SrcW w a n F)) (hcap : n ≤ cap) (mv : Nat → Int) (HK : Hid KnoP) (HM : Hid (n ≤ 20 → MayP F base n cap mv))
    (HV : Hid (∀ i, i < n → (∀ j, j < i → (F j).dn = true) → (F i).dn = false → mv i = 0)) :
    Calls Try.prog 3 #[.slice a n cap, .agg base.arr] w fun e w' => e = .returned (.bool true) ∧ Below w.heap.size w w' := by
  have HB : Hid (rowAt (w.alloc (.cells base.arr 26)) w.heap.size = some base.arr) := Lib.hid (rowAt_new _ _ _)
  have HL : Hid (Below w.heap.size w (w.alloc (.cells base.arr 26))) := Lib.hid ((Below.refl _ _).alloc (Nat.le_refl _) _)
  go_enter Try.func3, Try.ntmps3
  go_wp2_with (first | (go_at_call 13; refine (HK.out _).mono ?_; rintro e w2 ⟨rfl, hb2⟩; have HB2 := Lib.hid (rowAt_below HB.out hb2 rfl); have HL2 := Lib.hid (below_step HL.out hb2 rfl rfl rfl rfl); clear hb2 HB HL))
  · go_ret
    exact ⟨rfl, HL2.out⟩
  · have hn20 : n ≤ 20 := by omega
    go_loopw [5] (fun s5 W => ∃ j : Nat, j ≤ n ∧ s5 = .int .i64 j ∧ Hid (∀ k, k < j → (F k).dn = true) ∧ Hid (rowAt W w.heap.size = some base.arr) ∧ Hid (Below w.heap.size w W)) (fun s5 _ => n - (intOf s5).toNat)
    case atStart => exact ⟨0, Nat.zero_le _, rfl, Lib.hid (fun k hk => absurd hk (by omega)), HB2, HL2⟩
    case round =>
      obtain ⟨j, hj, rfl, HD, HBr, HLr⟩ := hrel
      by_cases hlt : j < n
      · obtain ⟨b, off, rfl, hw⟩ := HW.out.some (by omega)
        have HWr := Lib.hid (hw.below HLr.out)
        have cd := HWr.out.dn j hlt
        clear hw
        rcases hdj : (F j).dn with _ | _
        · rw [hdj] at cd
          have hv := HV.out j hlt HD.out hdj
          have HVj := Lib.hid hv
          have HMr := Lib.hid (HM.out hn20 b off j wr HWr.out hlt)
          clear hdj hv
          go_wp2_with (first | (refine wpl_load rfl 26 _ rfl w.heap.size 0 rfl base.arr (reg_all HBr.out) ?_) | (go_at_call 14; refine HMr.out.mono ?_; rintro e w3 ⟨he, hb3⟩; rw [HVj.out] at he; subst he; have HL3 := Lib.hid (below_step HLr.out hb3 rfl rfl rfl rfl); clear hb3))
          go_ret
          exact ⟨rfl, HL3.out⟩
        · rw [hdj] at cd
          have hd' : ∀ k, k < j + 1 → (F k).dn = true := fun k hk => by
            rcases Nat.lt_or_ge k j with h | h
            · exact HD.out k h
            · obtain rfl : k = j := by omega
              exact hdj
          have HD' := Lib.hid hd'
          clear hd' hdj
          go_wp2
          go_roundw
          case rel => exact ⟨j + 1, by omega, by go_num, HD', HBr, HLr⟩
          case measure => simp [intOf]; omega
      · obtain rfl : n = j := by omega
        have HWr : Hid (SrcW wr a n F) := Lib.hid (HW.out.below HLr.out)
        go_wp2_with (first | (go_at_call 15; refine (retires_c F a n cap _ HWr HD.out hcap (by omega)).mono ?_; rintro e w3 ⟨rfl, hb3⟩; have HL3 := Lib.hid (below_step HLr.out hb3 rfl rfl rfl rfl); clear hb3))
        go_ret
        exact ⟨by simp, HL3.out⟩
end Go.Proofs.Ytnbpgoacooddjaa
