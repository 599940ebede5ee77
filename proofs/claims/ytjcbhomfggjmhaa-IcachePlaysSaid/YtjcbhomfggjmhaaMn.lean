import Derived.Test.YtjcbhomfggjmhaaMl
import Derived.Laws.OwnMore
namespace Go.Proofs.Ytjcbhomfggjmhaa.Mm
open Go.ChangeShapes Go.WideShapes Go.ChangeAt Go.RowKit
set_option linter.unusedVariables false
theorem sort_u (N : Nat) (a : Option Addr) (n cp : Nat) (A0 S0 : Nat → Nat) (W0 X0 : Nat → Bool) (w : World) (ho : w.ownsRow N 58 4 (.slice a n cp) n (regCells A0 S0 W0 X0 n)) (hn : n ≤ 16) :
    Calls Try.prog 22 #[.slice a n cp, .func (.func 23) #[] #[]] w fun e w' => e = .returned (.tuple #[]) ∧ Below N w w' ∧ ∃ A S W X g, Dat n A0 S0 W0 X0 A S W X ∧ (∀ x y, x < y → y < n → A x ≤ A y) ∧ (n = 0 ∨ (a = some ⟨g, 0, none⟩ ∧ g < w'.heap.size)) ∧ RegsAt w' g n A S W X := by
  rcases Nat.eq_zero_or_pos n with h0 | h0
  · subst h0
    refine (sort_0 a cp w).mono ?_
    rintro e w' ⟨rfl, rfl⟩
    exact ⟨rfl, Below.refl _ _, A0, S0, W0, X0, 0, Dat.refl _ _ _ _ _, fun x y _ h => by omega, .inl rfl, fun p hp => by omega⟩
  · obtain ⟨g, cap, hv, hb, hg⟩ := own_pos ho h0
    injection hv with e1 e2 e3
    subst e1
    have hc := own_cells ho
    refine (sort_g N g n cp A0 S0 W0 X0 w hn hb (Lib.hid ⟨Below.refl _ _, hg, fun p => hc.2 p, A0, S0, W0, X0, Dat.refl _ _ _ _ _, trivial, fun p hp => hc.1 p _ (by unfold regCells; rw [List.getElem?_map, List.getElem?_range hp]; rfl)⟩)).mono ?_
    rintro e w' ⟨rfl, h1, h2, _, A, S, W, X, hD, hS, hR⟩
    exact ⟨rfl, h1, A, S, W, X, g, hD, hS, .inr ⟨rfl, h2⟩, hR⟩
theorem made_b (s : Nat) : (madeCells #[.int .u8 0] s).toList = byL (fun _ => 0) s := by
  apply List.ext_getElem?
  intro k
  by_cases hk : k < s
  · rw [byL_at _ _ _ hk, Array.getElem?_toList, Array.getElem?_eq_getElem (by rw [size_madeCells]; exact hk)]
    simp [madeCells, Nat.mod_one]
  · rw [List.getElem?_eq_none (by rw [Array.length_toList, size_madeCells]; omega), List.getElem?_eq_none (by unfold byL; simp; omega)]
theorem make_b (w : World) (s : Nat) (hs : s ≤ 16777216) : ∃ w', (Instr.makeSlice 22 (.int .u64 s) (.int .u64 s)).run Try.prog w = .ok (.slice (some ⟨w.heap.size, 0, none⟩) s s) w' ∧ w'.ownsRow w.heap.size 5 1 (.slice (some ⟨w.heap.size, 0, none⟩) s s) s (byL (fun _ => 0) s) ∧ Below w.heap.size w w' := by
  obtain ⟨i0, hi, hz0, hz1, hz2⟩ := info_parts info5z
  obtain ⟨w', h1, h2, h3⟩ := run_make_full (P := Try.prog) w w.heap.size 22 5 i0 _ 1 Try.underlying22 hi hz0 hz1 .u64 .u64 s (by rw [hz2]; omega) (by unfold maxLen; omega) (Nat.le_refl _)
  refine ⟨w', h1, ?_, ⟨h3.os, h3.tape, h3.output, h3.size, fun k hk => h3.block k hk (by simp)⟩⟩
  rw [← made_b s]
  simpa [Value.cells] using h2
def endOf (A S : Nat → Nat) : Nat → Nat
  | 0 => 0
  | j + 1 => A j + S j
/-- What New asks of a sorted row. -/
def RightR (A S : Nat → Nat) (n : Nat) : Prop := ∀ i, i < n → rightOne (A i) (S i) ∧ endOf A S i ≤ A i
theorem RightR.ord {A S : Nat → Nat} {n : Nat} (h : RightR A S n) : ∀ i j, i < j → j < n → A i + S i ≤ A j := by
  intro i j
  induction j with
  | zero => intro h1; omega
  | succ j ih =>
    intro h1 h2
    have h3 := (h (j + 1) h2).2
    have h4 : endOf A S (j + 1) = A j + S j := rfl
    by_cases e : i = j
    · subst e; omega
    · have := ih (by omega) (by omega)
      omega
def zMe (n : Nat) (A S : Nat → Nat) (W X : Nat → Bool) : Me := ⟨n, A, S, W, X, fun _ _ => 0⟩
theorem RightR.ok {A S : Nat → Nat} {n : Nat} (h : RightR A S n) (hn : n ≤ 16) (W X : Nat → Bool) : MeOk (zMe n A S W X) :=
  ⟨hn, fun j hj => by obtain ⟨⟨a, b, c, d, e⟩, _⟩ := h j hj; exact ⟨c, d, e, a, b⟩, fun i j h1 h2 => h.ord i j h1 h2, fun _ _ => by show 0 < 256; omega⟩
def NewC (n : Nat) (A0 S0 : Nat → Nat) (W0 X0 : Nat → Bool) (w : World) (e : Ending) (w' : World) : Prop := Below w.heap.size w w' ∧ ∃ A S W X, Dat n A0 S0 W0 X0 A S W X ∧ (∀ x y, x < y → y < n → A x ≤ A y) ∧
  ((RightR A S n ∧ ∃ mb v B C, e = .returned (.tuple #[.pointer (some ⟨mb, 0, none⟩), .int .i64 0]) ∧ MeC 64 67 w' (fun k => w.heap.size ≤ k ∧ k < w'.heap.size) mb (zMe n A S W X) v B C) ∨ (¬ RightR A S n ∧ e = .returned (.tuple #[.pointer none, .int .i64 1])))
theorem MeC.wide {tm ta : TypeId} {w : World} {FP FP' : Nat → Prop} {p : Nat} {M : Me} {v : Value} {B C : Nat → Nat} (h : MeC tm ta w FP p M v B C) (h1 : ∀ k, FP k → FP' k) (h2 : ∀ k, FP' k → k < w.heap.size) : MeC tm ta w FP' p M v B C :=
  ⟨h.row, h.ars, h.byt, h.inj, h1 _ h.fp, fun g hg => h1 _ (h.fv g hg), fun k hk => h1 _ (h.fb k hk), h2, h.ok⟩
theorem new_big (w : World) (u : Value) (n : Nat) (A0 S0 : Nat → Nat) (W0 X0 : Nat → Bool) (hb : RgSrc w u n A0 S0 W0 X0) (hn : 16 < n) (hn2 : n ≤ 9223372036854775807) :
    Calls Try.prog 5 #[u] w fun e w' => e = .returned (.tuple #[.pointer none, .int .i64 1]) ∧ w' = w := by
  have d1 : decide ((16 : Int) < (n : Int)) = true := decide_eq_true (by omega)
  obtain ⟨sp, cap, rfl, hcap, _⟩ := hb
  go_enter Try.func5, Try.ntmps5
  go_wp2
  refine bodyPost_ret (v := .tuple #[.pointer none, .int .i64 1]) (by simp [results, Try.results5, go_sem]) rfl ⟨rfl, rfl⟩
set_option maxRecDepth 100000 in
set_option maxHeartbeats 8000000 in
theorem new_c (w : World) (u : Value) (n : Nat) (A0 S0 : Nat → Nat) (W0 X0 : Nat → Bool) (hb : RgSrc w u n A0 S0 W0 X0) (n2 : n ≤ 16) :
    Calls Try.prog 5 #[u] w (NewC n A0 S0 W0 X0 w) := by
  have d1 : decide ((16 : Int) < (n : Int)) = false := decide_eq_false (by omega)
  obtain ⟨i0, hi, hz0, hz1, hz2⟩ := info_parts info187z
  have HCL := Lib.hid (clone_r w u n A0 S0 W0 X0 hb n2)
  obtain ⟨sp, cap, rfl, hcap, _⟩ := hb
  go_enter Try.func5, Try.ntmps5
  go_wp2_with (first | (go_at_call 21; refine HCL.out.mono ?_; rintro e w1 ⟨⟨v', rfl, ho⟩, hb1⟩; have HOW := Lib.hid ho; have HB1 := Lib.hid hb1; obtain ⟨a, cp, rfl, _⟩ := own_form ho; clear ho hb1) | (go_at_call 22; refine (sort_u w.heap.size a n cp A0 S0 W0 X0 _ HOW.out n2).mono ?_; rintro e w2 ⟨rfl, hb2, A, S, W, X, g, hD, hS, hag, hR⟩; have HD := Lib.hid hD; have HS := Lib.hid hS; have HR2 := Lib.hid hR; have HAG := Lib.hid hag; have HB2 := Lib.hid (HB1.out.trans hb2); clear hD hS hag hR hb2))
  have HT0 : Hid (TwAt 64 67 (w2.alloc (.cells #[.slice none 0 0] 64)) w2.heap.size (zMe n A S W X) 0 (.slice none 0 0) (fun _ => 0) (fun _ => 0)) := Lib.hid ⟨heap_alloc_new w2 _, ⟨rfl, .inl ⟨rfl, rfl⟩⟩, fun k hk => by omega, fun i k hi => by omega⟩
  have HRm : Hid (RegsAt (w2.alloc (.cells #[.slice none 0 0] 64)) g n A S W X) := Lib.hid (fun q hq => by
    rcases HAG.out with h | ⟨_, h⟩
    · omega
    · exact (World.cell?_alloc_past _ _ _ h).trans (HR2.out q hq))
  have HBm : Hid (Below w.heap.size w (w2.alloc (.cells #[.slice none 0 0] 64))) := Lib.hid (HB2.out.alloc HB2.out.size _)
  have HGZ : Hid (n = 0 ∨ (a = some ⟨g, 0, none⟩ ∧ g < w2.heap.size)) := HAG
  have HMW : Hid (w.heap.size ≤ w2.heap.size) := Lib.hid HB2.out.size
  have HMZ : Hid (w2.heap.size < (w2.alloc (.cells #[.slice none 0 0] 64)).heap.size) := Lib.hid (by simp)
  obtain ⟨mb, hmb⟩ : ∃ mb, mb = w2.heap.size := ⟨_, rfl⟩
  rw [← hmb] at HT0 HGZ HMW HMZ ⊢
  clear hmb HAG HR2 HB2
  generalize w2.alloc (.cells #[.slice none 0 0] 64) = wm at *
  go_loopw [6, 8, 22] (fun e _ i wr => ∃ j : Nat, j ≤ n ∧ i = .int .i64 j ∧ e = .int .u64 (endOf A S j : Nat) ∧ Hid (RightR A S j) ∧ Hid (Below wm.heap.size wm wr)) (fun _ _ i _ => n + 1 - (intOf i).toNat)
  case atStart => exact ⟨0, by omega, rfl, rfl, Lib.hid (fun i hi => by omega), Lib.hid (Below.refl _ _)⟩
  case round =>
    obtain ⟨j, hj, rfl, rfl, HOK, HBr⟩ := hrel
    by_cases hlt : j < n
    · obtain ⟨rfl, hgm⟩ : a = some ⟨g, 0, none⟩ ∧ g < mb := by
        rcases HGZ.out with h | h
        · omega
        · exact h
      have hgm2 : g < wm.heap.size := Nat.lt_trans hgm HMZ.out
      obtain ⟨f1, f2, f3, f4⟩ := (HRm.out.below HBr.out hgm2).four j hlt
      have hgr : g < wr.heap.size := by have := HBr.out.size; omega
      have gj : (j : Int) < n := by omega
      by_cases hright : rightOne (A j) (S j)
      · have HRT := Lib.hid hright
        obtain ⟨r1, r2, r3, r4, r5⟩ := hright
        by_cases hle : endOf A S j ≤ A j
        · have HLE := Lib.hid hle
          have d2 : decide (A j < endOf A S j) = false := decide_eq_false (by omega)
          go_wp2_with (go_at_call 24; refine (isRight_y (A j) (S j) (W j) (X j) _ r1 r2 r3 r4 r5).mono ?_; rintro e w3 ⟨rfl, hb3⟩; obtain ⟨q0, q1⟩ : w3.cell? ⟨wr.heap.size, 0, none⟩ = some (.int .u64 (A j : Nat)) ∧ w3.cell? ⟨wr.heap.size, 1, none⟩ = some (.int .u64 (S j : Nat)) := ⟨(hb3.cell (p := ⟨wr.heap.size, 0, none⟩) (by simp)).trans (World.cell?_alloc_at _ _ _ _ rfl), (hb3.cell (p := ⟨wr.heap.size, 1, none⟩) (by simp)).trans (World.cell?_alloc_at _ _ _ _ rfl)⟩; have HB3 := Lib.hid (HBr.out.trans (((Below.refl _ _).alloc (Nat.le_refl _) _).trans (hb3.mono (by simp)) |>.mono HBr.out.size)); clear hb3)
          refine ⟨⟨j + 1, by omega, by simp, by simp [endOf], Lib.hid (fun i hi => ?_), HB3⟩, by simp [intOf]; omega⟩
          rcases Nat.lt_or_ge i j with h | h
          · exact HOK.out i h
          · obtain rfl : i = j := by omega
            exact ⟨HRT.out, HLE.out⟩
        · have HNE : Hid (¬ RightR A S n) := Lib.hid (fun h => hle (h j hlt).2)
          have d2 : decide (A j < endOf A S j) = true := decide_eq_true (by omega)
          go_wp2_with (go_at_call 24; refine (isRight_y (A j) (S j) (W j) (X j) _ r1 r2 r3 r4 r5).mono ?_; rintro e w3 ⟨rfl, hb3⟩; obtain ⟨q0, q1⟩ : w3.cell? ⟨wr.heap.size, 0, none⟩ = some (.int .u64 (A j : Nat)) ∧ w3.cell? ⟨wr.heap.size, 1, none⟩ = some (.int .u64 (S j : Nat)) := ⟨(hb3.cell (p := ⟨wr.heap.size, 0, none⟩) (by simp)).trans (World.cell?_alloc_at _ _ _ _ rfl), (hb3.cell (p := ⟨wr.heap.size, 1, none⟩) (by simp)).trans (World.cell?_alloc_at _ _ _ _ rfl)⟩; have HB3 := Lib.hid (HBr.out.trans (((Below.refl _ _).alloc (Nat.le_refl _) _).trans (hb3.mono (by simp)) |>.mono HBr.out.size)); clear hb3)
          refine bodyPost_ret (v := .tuple #[.pointer none, .int .i64 1]) (by simp [results, Try.results5, go_sem]) rfl ⟨HBm.out.trans (HB3.out.mono HBm.out.size), A, S, W, X, HD.out, HS.out, .inr ⟨HNE.out, rfl⟩⟩
      · have HNR := Lib.hid hright
        have HNE : Hid (¬ RightR A S n) := Lib.hid (fun h => hright (h j hlt).1)
        clear hright
        go_wp2_with (go_at_call 24; refine (isRight_n (A j) (S j) (W j) (X j) _ HNR.out).mono ?_; rintro e w3 ⟨rfl, hb3⟩; have HB3 := Lib.hid (HBr.out.trans (((Below.refl _ _).alloc (Nat.le_refl _) _).trans (hb3.mono (by simp)) |>.mono HBr.out.size)); clear hb3)
        refine bodyPost_ret (v := .tuple #[.pointer none, .int .i64 1]) (by simp [results, Try.results5, go_sem]) rfl ⟨HBm.out.trans (HB3.out.mono HBm.out.size), A, S, W, X, HD.out, HS.out, .inr ⟨HNE.out, rfl⟩⟩
    · obtain rfl : j = n := by omega
      have HT1 := Lib.hid (HT0.out.past (HBr.out.mono (Nat.le_refl _)))
      have HRn : Hid (RegsAt wr g j A S W X) := Lib.hid (fun q hq => by
        rcases HGZ.out with h | ⟨_, h⟩
        · omega
        · exact HRm.out.below HBr.out (Nat.lt_trans h HMZ.out) q hq)
      have HBn : Hid (Below w.heap.size w wr) := Lib.hid (HBm.out.trans (HBr.out.mono HBm.out.size))
      clear HT0 HRm HBm HBr
      obtain ⟨wn, rfl⟩ : ∃ wn : World, wn = wr := ⟨_, rfl⟩
      go_wp2
      go_loopw [10, 43] (fun _ i wr => ∃ (k : Nat) (v : Value) (B C : Nat → Nat), k ≤ j ∧ i = .int .i64 k ∧ Hid (TwAt 64 67 wr mb (zMe j A S W X) k v B C) ∧ Hid (RegsAt wr g j A S W X) ∧ Hid (Below w.heap.size w wr)) (fun _ i _ => j + 1 - (intOf i).toNat)
      case atStart => exact ⟨0, _, _, _, by omega, rfl, HT1, HRn, HBn⟩
      case round =>
        obtain ⟨k, v, B, C, hk, rfl, HM, HR3, HB4⟩ := hrel
        by_cases hlt : k < j
        · obtain ⟨rfl, hgm⟩ : a = some ⟨g, 0, none⟩ ∧ g < mb := by
            rcases HGZ.out with h | h
            · omega
            · exact h
          obtain ⟨f1, f2, f3, f4⟩ := HR3.out.four k hlt
          obtain ⟨⟨r1, r2, r3, r4, r5⟩, _⟩ := HOK.out k hlt
          have gj : (k : Int) < j := by omega
          have hmbr : mb < wr.heap.size := (Array.getElem?_eq_some_iff.1 HM.out.row).1
          have hgr : g < wr.heap.size := by omega
          have hW : Below wr.heap.size wr (wr.alloc (.cells #[.int .u64 (A k : Nat), .int .u64 (S k : Nat), .bool (W k), .bool (X k)] 58)).drew := below_drewN ((Below.refl _ _).alloc (Nat.le_refl _) _) 1
          have HT := Lib.hid (HM.out.past hW)
          have HB2 : Hid (Below w.heap.size w (wr.alloc (.cells #[.int .u64 (A k : Nat), .int .u64 (S k : Nat), .bool (W k), .bool (X k)] 58)).drew) := Lib.hid (HB4.out.trans (hW.mono HB4.out.size))
          have HSZ : Hid (wr.heap.size < (wr.alloc (.cells #[.int .u64 (A k : Nat), .int .u64 (S k : Nat), .bool (W k), .bool (X k)] 58)).drew.heap.size) := Lib.hid (by simp)
          have HRV : Hid (RegsAt (wr.alloc (.cells #[.int .u64 (A k : Nat), .int .u64 (S k : Nat), .bool (W k), .bool (X k)] 58)).drew g j A S W X) := Lib.hid (HR3.out.below hW hgr)
          have HL : Hid ((wr.alloc (.cells #[.int .u64 (A k : Nat), .int .u64 (S k : Nat), .bool (W k), .bool (X k)] 58)).drew.cell? ⟨wr.heap.size, 0, none⟩ = some (.int .u64 (A k : Nat)) ∧ (wr.alloc (.cells #[.int .u64 (A k : Nat), .int .u64 (S k : Nat), .bool (W k), .bool (X k)] 58)).drew.cell? ⟨wr.heap.size, 1, none⟩ = some (.int .u64 (S k : Nat)) ∧ (wr.alloc (.cells #[.int .u64 (A k : Nat), .int .u64 (S k : Nat), .bool (W k), .bool (X k)] 58)).drew.cell? ⟨wr.heap.size, 2, none⟩ = some (.bool (W k)) ∧ (wr.alloc (.cells #[.int .u64 (A k : Nat), .int .u64 (S k : Nat), .bool (W k), .bool (X k)] 58)).drew.cell? ⟨wr.heap.size, 3, none⟩ = some (.bool (X k))) := Lib.hid ⟨World.cell?_alloc_at _ _ _ _ rfl, World.cell?_alloc_at _ _ _ _ rfl, World.cell?_alloc_at _ _ _ _ rfl, World.cell?_alloc_at _ _ _ _ rfl⟩
          have HGR := Lib.hid hgr
          have HGM := Lib.hid hgm
          have HNE : Hid (mb < wr.heap.size) := Lib.hid hmbr
          obtain ⟨w2, hmk, ho2, hb2⟩ := make_b (wr.alloc (.cells #[.int .u64 (A k : Nat), .int .u64 (S k : Nat), .bool (W k), .bool (X k)] 58)).drew (S k) r4
          have HMK := Lib.hid hmk
          have HO2 := Lib.hid ho2
          have HBx := Lib.hid hb2
          have HTx := Lib.hid (HT.out.past hb2)
          clear hW hmk ho2 hb2
          go_wp2
          refine wp_region_held_drew (S := fun w' => (w'.cell? ⟨wr.heap.size, 0, none⟩ = some (.int .u64 (A k : Nat)) ∧ w'.cell? ⟨wr.heap.size, 1, none⟩ = some (.int .u64 (S k : Nat)) ∧ w'.cell? ⟨wr.heap.size, 2, none⟩ = some (.bool (W k)) ∧ w'.cell? ⟨wr.heap.size, 3, none⟩ = some (.bool (X k)))) (by kernel_rfl) HL.out (fun hHeld => ?_)
          generalize (wr.alloc (.cells #[.int .u64 (A k : Nat), .int .u64 (S k : Nat), .bool (W k), .bool (X k)] 58)).drew = V at HT HB2 HSZ HRV HL HMK HO2 HBx HTx hHeld ⊢
          have hkeep2 : ∀ i, w2.cell? ⟨wr.heap.size, i, none⟩ = V.cell? ⟨wr.heap.size, i, none⟩ := fun i => HBx.out.cell (p := ⟨wr.heap.size, i, none⟩) HSZ.out
          have HL2 : Hid (w2.cell? ⟨wr.heap.size, 0, none⟩ = some (.int .u64 (A k : Nat)) ∧ w2.cell? ⟨wr.heap.size, 1, none⟩ = some (.int .u64 (S k : Nat)) ∧ w2.cell? ⟨wr.heap.size, 2, none⟩ = some (.bool (W k)) ∧ w2.cell? ⟨wr.heap.size, 3, none⟩ = some (.bool (X k))) := Lib.hid (by simp only [hkeep2]; exact HL.out)
          have HL3 : Hid ((w2.alloc (.cells #[.int .u64 (A k : Nat), .int .u64 (S k : Nat), .bool (W k), .bool (X k), .slice (some ⟨V.heap.size, 0, none⟩) (S k) (S k)] 67)).cell? ⟨wr.heap.size, 0, none⟩ = some (.int .u64 (A k : Nat)) ∧ (w2.alloc (.cells #[.int .u64 (A k : Nat), .int .u64 (S k : Nat), .bool (W k), .bool (X k), .slice (some ⟨V.heap.size, 0, none⟩) (S k) (S k)] 67)).cell? ⟨wr.heap.size, 1, none⟩ = some (.int .u64 (S k : Nat)) ∧ (w2.alloc (.cells #[.int .u64 (A k : Nat), .int .u64 (S k : Nat), .bool (W k), .bool (X k), .slice (some ⟨V.heap.size, 0, none⟩) (S k) (S k)] 67)).cell? ⟨wr.heap.size, 2, none⟩ = some (.bool (W k)) ∧ (w2.alloc (.cells #[.int .u64 (A k : Nat), .int .u64 (S k : Nat), .bool (W k), .bool (X k), .slice (some ⟨V.heap.size, 0, none⟩) (S k) (S k)] 67)).cell? ⟨wr.heap.size, 3, none⟩ = some (.bool (X k))) := Lib.hid (by have hkeep : ∀ i, (w2.alloc (.cells #[.int .u64 (A k : Nat), .int .u64 (S k : Nat), .bool (W k), .bool (X k), .slice (some ⟨V.heap.size, 0, none⟩) (S k) (S k)] 67)).cell? ⟨wr.heap.size, i, none⟩ = w2.cell? ⟨wr.heap.size, i, none⟩ := fun i => World.cell?_alloc_past _ _ _ (Nat.lt_of_lt_of_le HSZ.out HBx.out.size); simp only [hkeep]; exact HL2.out)
          have HOA := Lib.hid (own_past HTx.out.ars ((Below.refl _ _).alloc (Nat.le_refl _) (.cells #[.int .u64 (A k : Nat), .int .u64 (S k : Nat), .bool (W k), .bool (X k), .slice (some ⟨V.heap.size, 0, none⟩) (S k) (S k)] 67)))
          clear hkeep2 f1 f2 f3 f4
          refine wpAnyH_take (i := 0) (oi := { dst := some 47, op := Go.Op.move (Go.Operand.tmp 5), type := 25, pos := "mem.go:43", after := #[], guard := none }) (v := ?_) rfl (by kernel_rfl) (by kernel_rfl) (by kernel_rfl) (fun _ _ _ h => h) (Or.inl ⟨by rfl, ?_⟩) (by assumption) ?_
          rotate_left
          · (intro w0 hSw; (try dsimp only at hSw); go_split_ands; go_simp; with_reducible rfl)
          try simp only [Act.put, List.setIfInBounds_toArray, List.set_cons_zero, List.set_cons_succ]
          refine wpAnyH_take (i := 1) (oi := { dst := some 48, op := Go.Op.move (Go.Operand.tmp 5), type := 25, pos := "mem.go:43", after := #[], guard := none }) (v := ?_) rfl (by kernel_rfl) (by kernel_rfl) (by kernel_rfl) (fun _ _ _ h => h) (Or.inl ⟨by rfl, ?_⟩) (by assumption) ?_
          rotate_left
          · (intro w0 hSw; (try dsimp only at hSw); go_split_ands; go_simp; with_reducible rfl)
          try simp only [Act.put, List.setIfInBounds_toArray, List.set_cons_zero, List.set_cons_succ]
          refine wpAnyH_take (i := 2) (oi := { dst := some 49, op := Go.Op.nilCheck (Go.Operand.tmp 48), type := 0, pos := "mem.go:43", after := #[{ on := 1, ground := Go.Ground.data }], guard := none }) (v := ?_) rfl (by kernel_rfl) (by kernel_rfl) (by kernel_rfl) (fun _ _ _ h => h) (Or.inl ⟨by rfl, ?_⟩) (by assumption) ?_
          rotate_left
          · (intro w0 hSw; (try dsimp only at hSw); go_split_ands; go_simp; with_reducible rfl)
          try simp only [Act.put, List.setIfInBounds_toArray, List.set_cons_zero, List.set_cons_succ]
          refine wpAnyH_take (i := 3) (oi := { dst := some 50, op := Go.Op.fieldAddr 64 (Go.Operand.tmp 49) 0, type := 0, pos := "mem.go:43", after := #[{ on := 2, ground := Go.Ground.data }], guard := none }) (v := ?_) rfl (by kernel_rfl) (by kernel_rfl) (by kernel_rfl) (fun _ _ _ h => h) (Or.inl ⟨by rfl, ?_⟩) (by assumption) ?_
          rotate_left
          · (intro w0 hSw; (try dsimp only at hSw); go_split_ands; go_simp; with_reducible rfl)
          try simp only [Act.put, List.setIfInBounds_toArray, List.set_cons_zero, List.set_cons_succ]
          refine wpAnyH_take (i := 5) (oi := { dst := some 52, op := Go.Op.load 58 (Go.Operand.tmp 10), type := 58, pos := "mem.go:43", after := #[], guard := none }) (v := ?_) rfl (by kernel_rfl) (by kernel_rfl) (by kernel_rfl) (fun _ _ _ h => h) (Or.inl ⟨by rfl, ?_⟩) (by assumption) ?_
          rotate_left
          · (intro w0 hSw; (try dsimp only at hSw); go_split_ands; go_simp; with_reducible rfl)
          try simp only [Act.put, List.setIfInBounds_toArray, List.set_cons_zero, List.set_cons_succ]
          refine wpAnyH_take (i := 6) (oi := { dst := some 53, op := Go.Op.fieldAddr 58 (Go.Operand.tmp 10) 1, type := 0, pos := "mem.go:43", after := #[], guard := none }) (v := ?_) rfl (by kernel_rfl) (by kernel_rfl) (by kernel_rfl) (fun _ _ _ h => h) (Or.inl ⟨by rfl, ?_⟩) (by assumption) ?_
          rotate_left
          · (intro w0 hSw; (try dsimp only at hSw); go_split_ands; go_simp; with_reducible rfl)
          try simp only [Act.put, List.setIfInBounds_toArray, List.set_cons_zero, List.set_cons_succ]
          refine wpAnyH_take (i := 7) (oi := { dst := some 54, op := Go.Op.load 35 (Go.Operand.tmp 53), type := 35, pos := "mem.go:43", after := #[{ on := 6, ground := Go.Ground.data }], guard := none }) (v := ?_) rfl (by kernel_rfl) (by kernel_rfl) (by kernel_rfl) (fun _ _ _ h => h) (Or.inl ⟨by rfl, ?_⟩) (by assumption) ?_
          rotate_left
          · (intro w0 hSw; (try dsimp only at hSw); go_split_ands; go_simp; with_reducible rfl)
          try simp only [Act.put, List.setIfInBounds_toArray, List.set_cons_zero, List.set_cons_succ]
          refine wpAnyH_ready (rs := [4, 8]) (by kernel_rfl) (by simp) ?_
          refine AllReadyH.cons (o := { dst := some 51, op := Go.Op.load 62 (Go.Operand.tmp 50), type := 62, pos := "mem.go:43", after := #[{ on := 3, ground := Go.Ground.data }], guard := none }) rfl (fun K hK => ?_) (AllReadyH.cons (o := { dst := some 55, op := Go.Op.makeSlice 22 (Go.Operand.tmp 54) (Go.Operand.tmp 54), type := 22, pos := "mem.go:43", after := #[{ on := 7, ground := Go.Ground.data }, { on := 7, ground := Go.Ground.data }], guard := none }) rfl (fun K hK => ?_) AllReadyH.nil)
          · have c1 : V.cell? ⟨mb, 0, none⟩ = some v := by rw [cell_of_row _ _ 0 #[v] 64 _ HT.out.row]; rfl
            go_simp
            refine hK.out _ _ hHeld (fun hHeld => ?_)
            clear hK K
            try simp only [Act.put, List.setIfInBounds_toArray, List.set_cons_zero, List.set_cons_succ]
            refine wpAnyH_ready (rs := [8]) (by kernel_rfl) (by simp) ?_
            refine AllReadyH.cons (o := { dst := some 55, op := Go.Op.makeSlice 22 (Go.Operand.tmp 54) (Go.Operand.tmp 54), type := 22, pos := "mem.go:43", after := #[{ on := 7, ground := Go.Ground.data }, { on := 7, ground := Go.Ground.data }], guard := none }) rfl (fun K hK => ?_) AllReadyH.nil
            go_simp
            rw [HMK.out]
            go_simp
            refine hK.out _ _ HL2.out (fun hHeld => ?_)
            clear hK K
            try simp only [Act.put, List.setIfInBounds_toArray, List.set_cons_zero, List.set_cons_succ]
            refine wpAnyH_take (i := 9) (oi := { dst := some 56, op := Go.Op.build 67 #[(0, Go.Operand.tmp 52), (1, Go.Operand.tmp 55)], type := 67, pos := "mem.go:43", after := #[{ on := 5, ground := Go.Ground.data }, { on := 8, ground := Go.Ground.data }], guard := none }) (v := ?_) rfl (by kernel_rfl) (by kernel_rfl) (by kernel_rfl) (fun _ _ _ h => h) (Or.inl ⟨by rfl, ?_⟩) (by assumption) ?_
            rotate_left
            · (intro w0 hSw; (try dsimp only at hSw); go_split_ands; go_simp; with_reducible rfl)
            try simp only [Act.put, List.setIfInBounds_toArray, List.set_cons_zero, List.set_cons_succ]
            refine wpAnyH_ready (rs := [10]) (by kernel_rfl) (by simp) ?_
            refine AllReadyH.cons (o := { dst := some 57, op := Go.Op.buildSlice 62 1 #[(0, Go.Operand.tmp 56)], type := 62, pos := "mem.go:43", after := #[{ on := 9, ground := Go.Ground.data }], guard := none }) rfl (fun K hK => ?_) AllReadyH.nil
            go_simp
            refine hK.out _ _ HL3.out (fun hHeld => ?_)
            clear hK K
            try simp only [Act.put, List.setIfInBounds_toArray, List.set_cons_zero, List.set_cons_succ]
            refine wpAnyH_ready (rs := [11]) (by kernel_rfl) (by simp) ?_
            refine AllReadyH.cons (o := { dst := some 58, op := Go.Op.call { callee := Go.Callee.builtin Go.Builtin.append, args := #[Go.Operand.tmp 51, Go.Operand.tmp 57], argTypes := #[62, 62] }, type := 62, pos := "mem.go:43", after := #[{ on := 4, ground := Go.Ground.data }, { on := 10, ground := Go.Ground.data }], guard := none }) rfl (fun K hK => ?_) AllReadyH.nil
            have hnews : ∀ q u, (arC (zMe j A S W X) (fun i => if i = k then V.heap.size else B i) (fun i => if i = k then S k else C i) k)[q]? = some u → (w2.alloc (.cells #[.int .u64 (A k : Nat), .int .u64 (S k : Nat), .bool (W k), .bool (X k), .slice (some ⟨V.heap.size, 0, none⟩) (S k) (S k)] 67)).cell? ((⟨w2.heap.size, 0, none⟩ : Addr).add q) = some u := fun q u hu => by
              have : (⟨w2.heap.size, 0, none⟩ : Addr).add q = ⟨w2.heap.size, q, none⟩ := by unfold Addr.add; split <;> simp_all
              rw [this, World.cell?_alloc_at _ _ _ _ rfl]
              simp only [arC, zMe, if_true] at hu
              rw [← Array.getElem?_toList]
              exact hu
            have hmb2 : mb < w2.heap.size := (Array.getElem?_eq_some_iff.1 HTx.out.row).1
            obtain ⟨v3, w3, hr, ho3, hg3, _, hl3⟩ := run_append_own_at (P := Try.prog) (w2.alloc (.cells #[.int .u64 (A k : Nat), .int .u64 (S k : Nat), .bool (W k), .bool (X k), .slice (some ⟨V.heap.size, 0, none⟩) (S k) (S k)] 67)) (mb + 1) 62 62 67 i0 _ 5 48 Try.underlying62 hi hz0 hz1 hz2 rfl (by decide) v k (arL (zMe j A S W X) B C k) HOA.out ⟨w2.heap.size, 0, none⟩ 1 1 (arC (zMe j A S W X) (fun i => if i = k then V.heap.size else B i) (fun i => if i = k then S k else C i) k) rfl hnews (arC_one _ _ _ _) (by unfold maxLen; omega) (by omega) (by simp; omega)
            have HST := Lib.hid (HT.out.step (w2 := w2) (by decide) HBx.out HO2.out ho3 hg3)
            have HG3 := Lib.hid hg3
            have hrow3 : w3.heap[mb]? = some (.cells #[v] 64 (0, 0)) := (hg3.block _ (by simp; omega) (fun e => by have := HTx.out.ars.lt mb e.symm; omega)).trans ((heap_alloc_old w2 _ hmb2).trans HTx.out.row)
            have c13 : w3.cell? ⟨mb, 0, none⟩ = some v := by rw [cell_of_row w3 _ 0 #[v] 64 _ hrow3]; rfl
            have f13 := frozen_of_row w3 mb 0 #[v] 64 hrow3
            have HL4 : Hid (w3.cell? ⟨wr.heap.size, 0, none⟩ = some (.int .u64 (A k : Nat)) ∧ w3.cell? ⟨wr.heap.size, 1, none⟩ = some (.int .u64 (S k : Nat)) ∧ w3.cell? ⟨wr.heap.size, 2, none⟩ = some (.bool (W k)) ∧ w3.cell? ⟨wr.heap.size, 3, none⟩ = some (.bool (X k))) := Lib.hid (by have hkeep : ∀ i, w3.cell? ⟨wr.heap.size, i, none⟩ = (w2.alloc (.cells #[.int .u64 (A k : Nat), .int .u64 (S k : Nat), .bool (W k), .bool (X k), .slice (some ⟨V.heap.size, 0, none⟩) (S k) (S k)] 67)).cell? ⟨wr.heap.size, i, none⟩ := fun i => hg3.cell_far ⟨wr.heap.size, i, none⟩ (by have := HSZ.out; have := HBx.out.size; simp; omega) (fun e => by have := HM.out.ars.lt wr.heap.size e.symm; omega); simp only [hkeep]; exact HL3.out)
            have HL5 : Hid ((w3.setCell ⟨mb, 0, none⟩ v3).cell? ⟨wr.heap.size, 0, none⟩ = some (.int .u64 (A k : Nat)) ∧ (w3.setCell ⟨mb, 0, none⟩ v3).cell? ⟨wr.heap.size, 1, none⟩ = some (.int .u64 (S k : Nat)) ∧ (w3.setCell ⟨mb, 0, none⟩ v3).cell? ⟨wr.heap.size, 2, none⟩ = some (.bool (W k)) ∧ (w3.setCell ⟨mb, 0, none⟩ v3).cell? ⟨wr.heap.size, 3, none⟩ = some (.bool (X k))) := Lib.hid (by have hkeep : ∀ i, (w3.setCell ⟨mb, 0, none⟩ v3).cell? ⟨wr.heap.size, i, none⟩ = w3.cell? ⟨wr.heap.size, i, none⟩ := fun i => World.cell?_setCell_other _ _ _ _ (fun e => by injection e with e; have := HNE.out; omega); simp only [hkeep]; exact HL4.out)
            obtain ⟨a3, cp3, rfl, _⟩ := own_form ho3
            have HB5 : Hid (Below w.heap.size w (w3.setCell ⟨mb, 0, none⟩ (.slice a3 (k + 1) cp3))) := Lib.hid ((((HB2.out.trans (HBx.out.mono HB2.out.size)).alloc (by have := HB2.out.size; have := HBx.out.size; omega) (.cells #[.int .u64 (A k : Nat), .int .u64 (S k : Nat), .bool (W k), .bool (X k), .slice (some ⟨V.heap.size, 0, none⟩) (S k) (S k)] 67)).grown hg3 (by have := HB2.out.size; have := HBx.out.size; simp; omega) (fun q hq => by have := HT.out.ars.lt q hq; have := HMW.out; omega)).setCell HMW.out _)
            have HR5 : Hid (RegsAt (w3.setCell ⟨mb, 0, none⟩ (.slice a3 (k + 1) cp3)) g j A S W X) := Lib.hid (fun q hq => (World.cell?_setCell_other _ _ _ _ (fun e => by injection e with e; have := HGM.out; omega)).trans ((hg3.cell_far ⟨g, q, none⟩ (by have := HGM.out; simp; omega) (fun e => by have := HT.out.ars.lt g e.symm; have := HGM.out; omega)).trans ((World.cell?_alloc_past _ _ _ (by have := HGM.out; show g < w2.heap.size; omega)).trans ((HBx.out.cell (p := ⟨g, q, none⟩) (by have := HGR.out; have := HSZ.out; show g < V.heap.size; omega)).trans (HRV.out q hq)))))
            clear hrow3 hnews ho3 hg3 hl3
            refine step_append_run rfl _ _ _ rfl _ _ _ _ rfl (by rfl) hr ?_
            refine hK.out _ _ HL4.out (fun hHeld => ?_)
            clear hK K
            try simp only [Act.put, List.setIfInBounds_toArray, List.set_cons_zero, List.set_cons_succ]
            refine wpAnyH_take (i := 12) (oi := { dst := some 59, op := Go.Op.nilCheck (Go.Operand.tmp 47), type := 0, pos := "mem.go:43", after := #[{ on := 0, ground := Go.Ground.data }, { on := 0, ground := Go.Ground.phase }, { on := 1, ground := Go.Ground.phase }, { on := 2, ground := Go.Ground.phase }, { on := 3, ground := Go.Ground.phase }, { on := 4, ground := Go.Ground.phase }, { on := 5, ground := Go.Ground.phase }, { on := 6, ground := Go.Ground.phase }, { on := 7, ground := Go.Ground.phase }, { on := 8, ground := Go.Ground.phase }, { on := 9, ground := Go.Ground.phase }, { on := 10, ground := Go.Ground.phase }, { on := 11, ground := Go.Ground.phase }], guard := none }) (v := ?_) rfl (by kernel_rfl) (by kernel_rfl) (by kernel_rfl) (fun _ _ _ h => h) (Or.inl ⟨by rfl, ?_⟩) (by assumption) ?_
            rotate_left
            · (intro w0 hSw; (try dsimp only at hSw); go_split_ands; go_simp; with_reducible rfl)
            try simp only [Act.put, List.setIfInBounds_toArray, List.set_cons_zero, List.set_cons_succ]
            refine wpAnyH_take (i := 13) (oi := { dst := some 60, op := Go.Op.fieldAddr 64 (Go.Operand.tmp 59) 0, type := 0, pos := "mem.go:43", after := #[{ on := 12, ground := Go.Ground.data }, { on := 0, ground := Go.Ground.phase }, { on := 1, ground := Go.Ground.phase }, { on := 2, ground := Go.Ground.phase }, { on := 3, ground := Go.Ground.phase }, { on := 4, ground := Go.Ground.phase }, { on := 5, ground := Go.Ground.phase }, { on := 6, ground := Go.Ground.phase }, { on := 7, ground := Go.Ground.phase }, { on := 8, ground := Go.Ground.phase }, { on := 9, ground := Go.Ground.phase }, { on := 10, ground := Go.Ground.phase }, { on := 11, ground := Go.Ground.phase }], guard := none }) (v := ?_) rfl (by kernel_rfl) (by kernel_rfl) (by kernel_rfl) (fun _ _ _ h => h) (Or.inl ⟨by rfl, ?_⟩) (by assumption) ?_
            rotate_left
            · (intro w0 hSw; (try dsimp only at hSw); go_split_ands; go_simp; with_reducible rfl)
            try simp only [Act.put, List.setIfInBounds_toArray, List.set_cons_zero, List.set_cons_succ]
            refine wpAnyH_ready (rs := [14]) (by kernel_rfl) (by simp) ?_
            refine AllReadyH.cons (o := { dst := none, op := Go.Op.store 62 (Go.Operand.tmp 60) (Go.Operand.tmp 58), type := 0, pos := "mem.go:43", after := #[{ on := 13, ground := Go.Ground.data }, { on := 11, ground := Go.Ground.data }, { on := 11, ground := Go.Ground.chain }, { on := 0, ground := Go.Ground.phase }, { on := 1, ground := Go.Ground.phase }, { on := 2, ground := Go.Ground.phase }, { on := 3, ground := Go.Ground.phase }, { on := 4, ground := Go.Ground.phase }, { on := 5, ground := Go.Ground.phase }, { on := 6, ground := Go.Ground.phase }, { on := 7, ground := Go.Ground.phase }, { on := 8, ground := Go.Ground.phase }, { on := 9, ground := Go.Ground.phase }, { on := 10, ground := Go.Ground.phase }, { on := 11, ground := Go.Ground.phase }], guard := none }) rfl (fun K hK => ?_) AllReadyH.nil
            go_simp
            refine hK.out _ _ HL5.out (fun hHeld => ?_)
            clear hK K
            try simp only [Act.put, List.setIfInBounds_toArray, List.set_cons_zero, List.set_cons_succ]
            refine wpAnyH_done (by kernel_rfl) ?_ _
            clear hHeld
            go_wp2
            exact ⟨⟨k + 1, _, _, _, by omega, by simp, HST, HR5, HB5⟩, by simp [intOf]; omega⟩
          · go_simp
            rw [HMK.out]
            go_simp
            refine hK.out _ _ HL2.out (fun hHeld => ?_)
            clear hK K
            try simp only [Act.put, List.setIfInBounds_toArray, List.set_cons_zero, List.set_cons_succ]
            refine wpAnyH_take (i := 9) (oi := { dst := some 56, op := Go.Op.build 67 #[(0, Go.Operand.tmp 52), (1, Go.Operand.tmp 55)], type := 67, pos := "mem.go:43", after := #[{ on := 5, ground := Go.Ground.data }, { on := 8, ground := Go.Ground.data }], guard := none }) (v := ?_) rfl (by kernel_rfl) (by kernel_rfl) (by kernel_rfl) (fun _ _ _ h => h) (Or.inl ⟨by rfl, ?_⟩) (by assumption) ?_
            rotate_left
            · (intro w0 hSw; (try dsimp only at hSw); go_split_ands; go_simp; with_reducible rfl)
            try simp only [Act.put, List.setIfInBounds_toArray, List.set_cons_zero, List.set_cons_succ]
            refine wpAnyH_ready (rs := [4, 10]) (by kernel_rfl) (by simp) ?_
            refine AllReadyH.cons (o := { dst := some 51, op := Go.Op.load 62 (Go.Operand.tmp 50), type := 62, pos := "mem.go:43", after := #[{ on := 3, ground := Go.Ground.data }], guard := none }) rfl (fun K hK => ?_) (AllReadyH.cons (o := { dst := some 57, op := Go.Op.buildSlice 62 1 #[(0, Go.Operand.tmp 56)], type := 62, pos := "mem.go:43", after := #[{ on := 9, ground := Go.Ground.data }], guard := none }) rfl (fun K hK => ?_) AllReadyH.nil)
            · have c1 : w2.cell? ⟨mb, 0, none⟩ = some v := by rw [cell_of_row _ _ 0 #[v] 64 _ HTx.out.row]; rfl
              go_simp
              refine hK.out _ _ HL2.out (fun hHeld => ?_)
              clear hK K
              try simp only [Act.put, List.setIfInBounds_toArray, List.set_cons_zero, List.set_cons_succ]
              refine wpAnyH_ready (rs := [10]) (by kernel_rfl) (by simp) ?_
              refine AllReadyH.cons (o := { dst := some 57, op := Go.Op.buildSlice 62 1 #[(0, Go.Operand.tmp 56)], type := 62, pos := "mem.go:43", after := #[{ on := 9, ground := Go.Ground.data }], guard := none }) rfl (fun K hK => ?_) AllReadyH.nil
              go_simp
              refine hK.out _ _ HL3.out (fun hHeld => ?_)
              clear hK K
              try simp only [Act.put, List.setIfInBounds_toArray, List.set_cons_zero, List.set_cons_succ]
              refine wpAnyH_ready (rs := [11]) (by kernel_rfl) (by simp) ?_
              refine AllReadyH.cons (o := { dst := some 58, op := Go.Op.call { callee := Go.Callee.builtin Go.Builtin.append, args := #[Go.Operand.tmp 51, Go.Operand.tmp 57], argTypes := #[62, 62] }, type := 62, pos := "mem.go:43", after := #[{ on := 4, ground := Go.Ground.data }, { on := 10, ground := Go.Ground.data }], guard := none }) rfl (fun K hK => ?_) AllReadyH.nil
              have hnews : ∀ q u, (arC (zMe j A S W X) (fun i => if i = k then V.heap.size else B i) (fun i => if i = k then S k else C i) k)[q]? = some u → (w2.alloc (.cells #[.int .u64 (A k : Nat), .int .u64 (S k : Nat), .bool (W k), .bool (X k), .slice (some ⟨V.heap.size, 0, none⟩) (S k) (S k)] 67)).cell? ((⟨w2.heap.size, 0, none⟩ : Addr).add q) = some u := fun q u hu => by
                have : (⟨w2.heap.size, 0, none⟩ : Addr).add q = ⟨w2.heap.size, q, none⟩ := by unfold Addr.add; split <;> simp_all
                rw [this, World.cell?_alloc_at _ _ _ _ rfl]
                simp only [arC, zMe, if_true] at hu
                rw [← Array.getElem?_toList]
                exact hu
              have hmb2 : mb < w2.heap.size := (Array.getElem?_eq_some_iff.1 HTx.out.row).1
              obtain ⟨v3, w3, hr, ho3, hg3, _, hl3⟩ := run_append_own_at (P := Try.prog) (w2.alloc (.cells #[.int .u64 (A k : Nat), .int .u64 (S k : Nat), .bool (W k), .bool (X k), .slice (some ⟨V.heap.size, 0, none⟩) (S k) (S k)] 67)) (mb + 1) 62 62 67 i0 _ 5 48 Try.underlying62 hi hz0 hz1 hz2 rfl (by decide) v k (arL (zMe j A S W X) B C k) HOA.out ⟨w2.heap.size, 0, none⟩ 1 1 (arC (zMe j A S W X) (fun i => if i = k then V.heap.size else B i) (fun i => if i = k then S k else C i) k) rfl hnews (arC_one _ _ _ _) (by unfold maxLen; omega) (by omega) (by simp; omega)
              have HST := Lib.hid (HT.out.step (w2 := w2) (by decide) HBx.out HO2.out ho3 hg3)
              have HG3 := Lib.hid hg3
              have hrow3 : w3.heap[mb]? = some (.cells #[v] 64 (0, 0)) := (hg3.block _ (by simp; omega) (fun e => by have := HTx.out.ars.lt mb e.symm; omega)).trans ((heap_alloc_old w2 _ hmb2).trans HTx.out.row)
              have c13 : w3.cell? ⟨mb, 0, none⟩ = some v := by rw [cell_of_row w3 _ 0 #[v] 64 _ hrow3]; rfl
              have f13 := frozen_of_row w3 mb 0 #[v] 64 hrow3
              have HL4 : Hid (w3.cell? ⟨wr.heap.size, 0, none⟩ = some (.int .u64 (A k : Nat)) ∧ w3.cell? ⟨wr.heap.size, 1, none⟩ = some (.int .u64 (S k : Nat)) ∧ w3.cell? ⟨wr.heap.size, 2, none⟩ = some (.bool (W k)) ∧ w3.cell? ⟨wr.heap.size, 3, none⟩ = some (.bool (X k))) := Lib.hid (by have hkeep : ∀ i, w3.cell? ⟨wr.heap.size, i, none⟩ = (w2.alloc (.cells #[.int .u64 (A k : Nat), .int .u64 (S k : Nat), .bool (W k), .bool (X k), .slice (some ⟨V.heap.size, 0, none⟩) (S k) (S k)] 67)).cell? ⟨wr.heap.size, i, none⟩ := fun i => hg3.cell_far ⟨wr.heap.size, i, none⟩ (by have := HSZ.out; have := HBx.out.size; simp; omega) (fun e => by have := HM.out.ars.lt wr.heap.size e.symm; omega); simp only [hkeep]; exact HL3.out)
              have HL5 : Hid ((w3.setCell ⟨mb, 0, none⟩ v3).cell? ⟨wr.heap.size, 0, none⟩ = some (.int .u64 (A k : Nat)) ∧ (w3.setCell ⟨mb, 0, none⟩ v3).cell? ⟨wr.heap.size, 1, none⟩ = some (.int .u64 (S k : Nat)) ∧ (w3.setCell ⟨mb, 0, none⟩ v3).cell? ⟨wr.heap.size, 2, none⟩ = some (.bool (W k)) ∧ (w3.setCell ⟨mb, 0, none⟩ v3).cell? ⟨wr.heap.size, 3, none⟩ = some (.bool (X k))) := Lib.hid (by have hkeep : ∀ i, (w3.setCell ⟨mb, 0, none⟩ v3).cell? ⟨wr.heap.size, i, none⟩ = w3.cell? ⟨wr.heap.size, i, none⟩ := fun i => World.cell?_setCell_other _ _ _ _ (fun e => by injection e with e; have := HNE.out; omega); simp only [hkeep]; exact HL4.out)
              obtain ⟨a3, cp3, rfl, _⟩ := own_form ho3
              have HB5 : Hid (Below w.heap.size w (w3.setCell ⟨mb, 0, none⟩ (.slice a3 (k + 1) cp3))) := Lib.hid ((((HB2.out.trans (HBx.out.mono HB2.out.size)).alloc (by have := HB2.out.size; have := HBx.out.size; omega) (.cells #[.int .u64 (A k : Nat), .int .u64 (S k : Nat), .bool (W k), .bool (X k), .slice (some ⟨V.heap.size, 0, none⟩) (S k) (S k)] 67)).grown hg3 (by have := HB2.out.size; have := HBx.out.size; simp; omega) (fun q hq => by have := HT.out.ars.lt q hq; have := HMW.out; omega)).setCell HMW.out _)
              have HR5 : Hid (RegsAt (w3.setCell ⟨mb, 0, none⟩ (.slice a3 (k + 1) cp3)) g j A S W X) := Lib.hid (fun q hq => (World.cell?_setCell_other _ _ _ _ (fun e => by injection e with e; have := HGM.out; omega)).trans ((hg3.cell_far ⟨g, q, none⟩ (by have := HGM.out; simp; omega) (fun e => by have := HT.out.ars.lt g e.symm; have := HGM.out; omega)).trans ((World.cell?_alloc_past _ _ _ (by have := HGM.out; show g < w2.heap.size; omega)).trans ((HBx.out.cell (p := ⟨g, q, none⟩) (by have := HGR.out; have := HSZ.out; show g < V.heap.size; omega)).trans (HRV.out q hq)))))
              clear hrow3 hnews ho3 hg3 hl3
              refine step_append_run rfl _ _ _ rfl _ _ _ _ rfl (by rfl) hr ?_
              refine hK.out _ _ HL4.out (fun hHeld => ?_)
              clear hK K
              try simp only [Act.put, List.setIfInBounds_toArray, List.set_cons_zero, List.set_cons_succ]
              refine wpAnyH_take (i := 12) (oi := { dst := some 59, op := Go.Op.nilCheck (Go.Operand.tmp 47), type := 0, pos := "mem.go:43", after := #[{ on := 0, ground := Go.Ground.data }, { on := 0, ground := Go.Ground.phase }, { on := 1, ground := Go.Ground.phase }, { on := 2, ground := Go.Ground.phase }, { on := 3, ground := Go.Ground.phase }, { on := 4, ground := Go.Ground.phase }, { on := 5, ground := Go.Ground.phase }, { on := 6, ground := Go.Ground.phase }, { on := 7, ground := Go.Ground.phase }, { on := 8, ground := Go.Ground.phase }, { on := 9, ground := Go.Ground.phase }, { on := 10, ground := Go.Ground.phase }, { on := 11, ground := Go.Ground.phase }], guard := none }) (v := ?_) rfl (by kernel_rfl) (by kernel_rfl) (by kernel_rfl) (fun _ _ _ h => h) (Or.inl ⟨by rfl, ?_⟩) (by assumption) ?_
              rotate_left
              · (intro w0 hSw; (try dsimp only at hSw); go_split_ands; go_simp; with_reducible rfl)
              try simp only [Act.put, List.setIfInBounds_toArray, List.set_cons_zero, List.set_cons_succ]
              refine wpAnyH_take (i := 13) (oi := { dst := some 60, op := Go.Op.fieldAddr 64 (Go.Operand.tmp 59) 0, type := 0, pos := "mem.go:43", after := #[{ on := 12, ground := Go.Ground.data }, { on := 0, ground := Go.Ground.phase }, { on := 1, ground := Go.Ground.phase }, { on := 2, ground := Go.Ground.phase }, { on := 3, ground := Go.Ground.phase }, { on := 4, ground := Go.Ground.phase }, { on := 5, ground := Go.Ground.phase }, { on := 6, ground := Go.Ground.phase }, { on := 7, ground := Go.Ground.phase }, { on := 8, ground := Go.Ground.phase }, { on := 9, ground := Go.Ground.phase }, { on := 10, ground := Go.Ground.phase }, { on := 11, ground := Go.Ground.phase }], guard := none }) (v := ?_) rfl (by kernel_rfl) (by kernel_rfl) (by kernel_rfl) (fun _ _ _ h => h) (Or.inl ⟨by rfl, ?_⟩) (by assumption) ?_
              rotate_left
              · (intro w0 hSw; (try dsimp only at hSw); go_split_ands; go_simp; with_reducible rfl)
              try simp only [Act.put, List.setIfInBounds_toArray, List.set_cons_zero, List.set_cons_succ]
              refine wpAnyH_ready (rs := [14]) (by kernel_rfl) (by simp) ?_
              refine AllReadyH.cons (o := { dst := none, op := Go.Op.store 62 (Go.Operand.tmp 60) (Go.Operand.tmp 58), type := 0, pos := "mem.go:43", after := #[{ on := 13, ground := Go.Ground.data }, { on := 11, ground := Go.Ground.data }, { on := 11, ground := Go.Ground.chain }, { on := 0, ground := Go.Ground.phase }, { on := 1, ground := Go.Ground.phase }, { on := 2, ground := Go.Ground.phase }, { on := 3, ground := Go.Ground.phase }, { on := 4, ground := Go.Ground.phase }, { on := 5, ground := Go.Ground.phase }, { on := 6, ground := Go.Ground.phase }, { on := 7, ground := Go.Ground.phase }, { on := 8, ground := Go.Ground.phase }, { on := 9, ground := Go.Ground.phase }, { on := 10, ground := Go.Ground.phase }, { on := 11, ground := Go.Ground.phase }], guard := none }) rfl (fun K hK => ?_) AllReadyH.nil
              go_simp
              refine hK.out _ _ HL5.out (fun hHeld => ?_)
              clear hK K
              try simp only [Act.put, List.setIfInBounds_toArray, List.set_cons_zero, List.set_cons_succ]
              refine wpAnyH_done (by kernel_rfl) ?_ _
              clear hHeld
              go_wp2
              exact ⟨⟨k + 1, _, _, _, by omega, by simp, HST, HR5, HB5⟩, by simp [intOf]; omega⟩
            · go_simp
              refine hK.out _ _ HL3.out (fun hHeld => ?_)
              clear hK K
              try simp only [Act.put, List.setIfInBounds_toArray, List.set_cons_zero, List.set_cons_succ]
              refine wpAnyH_ready (rs := [4]) (by kernel_rfl) (by simp) ?_
              refine AllReadyH.cons (o := { dst := some 51, op := Go.Op.load 62 (Go.Operand.tmp 50), type := 62, pos := "mem.go:43", after := #[{ on := 3, ground := Go.Ground.data }], guard := none }) rfl (fun K hK => ?_) AllReadyH.nil
              have c1 : (w2.alloc (.cells #[.int .u64 (A k : Nat), .int .u64 (S k : Nat), .bool (W k), .bool (X k), .slice (some ⟨V.heap.size, 0, none⟩) (S k) (S k)] 67)).cell? ⟨mb, 0, none⟩ = some v := by rw [cell_of_row _ _ 0 #[v] 64 _ ((heap_alloc_old w2 _ (Array.getElem?_eq_some_iff.1 HTx.out.row).1).trans HTx.out.row)]; rfl
              go_simp
              refine hK.out _ _ HL3.out (fun hHeld => ?_)
              clear hK K
              try simp only [Act.put, List.setIfInBounds_toArray, List.set_cons_zero, List.set_cons_succ]
              refine wpAnyH_ready (rs := [11]) (by kernel_rfl) (by simp) ?_
              refine AllReadyH.cons (o := { dst := some 58, op := Go.Op.call { callee := Go.Callee.builtin Go.Builtin.append, args := #[Go.Operand.tmp 51, Go.Operand.tmp 57], argTypes := #[62, 62] }, type := 62, pos := "mem.go:43", after := #[{ on := 4, ground := Go.Ground.data }, { on := 10, ground := Go.Ground.data }], guard := none }) rfl (fun K hK => ?_) AllReadyH.nil
              have hnews : ∀ q u, (arC (zMe j A S W X) (fun i => if i = k then V.heap.size else B i) (fun i => if i = k then S k else C i) k)[q]? = some u → (w2.alloc (.cells #[.int .u64 (A k : Nat), .int .u64 (S k : Nat), .bool (W k), .bool (X k), .slice (some ⟨V.heap.size, 0, none⟩) (S k) (S k)] 67)).cell? ((⟨w2.heap.size, 0, none⟩ : Addr).add q) = some u := fun q u hu => by
                have : (⟨w2.heap.size, 0, none⟩ : Addr).add q = ⟨w2.heap.size, q, none⟩ := by unfold Addr.add; split <;> simp_all
                rw [this, World.cell?_alloc_at _ _ _ _ rfl]
                simp only [arC, zMe, if_true] at hu
                rw [← Array.getElem?_toList]
                exact hu
              have hmb2 : mb < w2.heap.size := (Array.getElem?_eq_some_iff.1 HTx.out.row).1
              obtain ⟨v3, w3, hr, ho3, hg3, _, hl3⟩ := run_append_own_at (P := Try.prog) (w2.alloc (.cells #[.int .u64 (A k : Nat), .int .u64 (S k : Nat), .bool (W k), .bool (X k), .slice (some ⟨V.heap.size, 0, none⟩) (S k) (S k)] 67)) (mb + 1) 62 62 67 i0 _ 5 48 Try.underlying62 hi hz0 hz1 hz2 rfl (by decide) v k (arL (zMe j A S W X) B C k) HOA.out ⟨w2.heap.size, 0, none⟩ 1 1 (arC (zMe j A S W X) (fun i => if i = k then V.heap.size else B i) (fun i => if i = k then S k else C i) k) rfl hnews (arC_one _ _ _ _) (by unfold maxLen; omega) (by omega) (by simp; omega)
              have HST := Lib.hid (HT.out.step (w2 := w2) (by decide) HBx.out HO2.out ho3 hg3)
              have HG3 := Lib.hid hg3
              have hrow3 : w3.heap[mb]? = some (.cells #[v] 64 (0, 0)) := (hg3.block _ (by simp; omega) (fun e => by have := HTx.out.ars.lt mb e.symm; omega)).trans ((heap_alloc_old w2 _ hmb2).trans HTx.out.row)
              have c13 : w3.cell? ⟨mb, 0, none⟩ = some v := by rw [cell_of_row w3 _ 0 #[v] 64 _ hrow3]; rfl
              have f13 := frozen_of_row w3 mb 0 #[v] 64 hrow3
              have HL4 : Hid (w3.cell? ⟨wr.heap.size, 0, none⟩ = some (.int .u64 (A k : Nat)) ∧ w3.cell? ⟨wr.heap.size, 1, none⟩ = some (.int .u64 (S k : Nat)) ∧ w3.cell? ⟨wr.heap.size, 2, none⟩ = some (.bool (W k)) ∧ w3.cell? ⟨wr.heap.size, 3, none⟩ = some (.bool (X k))) := Lib.hid (by have hkeep : ∀ i, w3.cell? ⟨wr.heap.size, i, none⟩ = (w2.alloc (.cells #[.int .u64 (A k : Nat), .int .u64 (S k : Nat), .bool (W k), .bool (X k), .slice (some ⟨V.heap.size, 0, none⟩) (S k) (S k)] 67)).cell? ⟨wr.heap.size, i, none⟩ := fun i => hg3.cell_far ⟨wr.heap.size, i, none⟩ (by have := HSZ.out; have := HBx.out.size; simp; omega) (fun e => by have := HM.out.ars.lt wr.heap.size e.symm; omega); simp only [hkeep]; exact HL3.out)
              have HL5 : Hid ((w3.setCell ⟨mb, 0, none⟩ v3).cell? ⟨wr.heap.size, 0, none⟩ = some (.int .u64 (A k : Nat)) ∧ (w3.setCell ⟨mb, 0, none⟩ v3).cell? ⟨wr.heap.size, 1, none⟩ = some (.int .u64 (S k : Nat)) ∧ (w3.setCell ⟨mb, 0, none⟩ v3).cell? ⟨wr.heap.size, 2, none⟩ = some (.bool (W k)) ∧ (w3.setCell ⟨mb, 0, none⟩ v3).cell? ⟨wr.heap.size, 3, none⟩ = some (.bool (X k))) := Lib.hid (by have hkeep : ∀ i, (w3.setCell ⟨mb, 0, none⟩ v3).cell? ⟨wr.heap.size, i, none⟩ = w3.cell? ⟨wr.heap.size, i, none⟩ := fun i => World.cell?_setCell_other _ _ _ _ (fun e => by injection e with e; have := HNE.out; omega); simp only [hkeep]; exact HL4.out)
              obtain ⟨a3, cp3, rfl, _⟩ := own_form ho3
              have HB5 : Hid (Below w.heap.size w (w3.setCell ⟨mb, 0, none⟩ (.slice a3 (k + 1) cp3))) := Lib.hid ((((HB2.out.trans (HBx.out.mono HB2.out.size)).alloc (by have := HB2.out.size; have := HBx.out.size; omega) (.cells #[.int .u64 (A k : Nat), .int .u64 (S k : Nat), .bool (W k), .bool (X k), .slice (some ⟨V.heap.size, 0, none⟩) (S k) (S k)] 67)).grown hg3 (by have := HB2.out.size; have := HBx.out.size; simp; omega) (fun q hq => by have := HT.out.ars.lt q hq; have := HMW.out; omega)).setCell HMW.out _)
              have HR5 : Hid (RegsAt (w3.setCell ⟨mb, 0, none⟩ (.slice a3 (k + 1) cp3)) g j A S W X) := Lib.hid (fun q hq => (World.cell?_setCell_other _ _ _ _ (fun e => by injection e with e; have := HGM.out; omega)).trans ((hg3.cell_far ⟨g, q, none⟩ (by have := HGM.out; simp; omega) (fun e => by have := HT.out.ars.lt g e.symm; have := HGM.out; omega)).trans ((World.cell?_alloc_past _ _ _ (by have := HGM.out; show g < w2.heap.size; omega)).trans ((HBx.out.cell (p := ⟨g, q, none⟩) (by have := HGR.out; have := HSZ.out; show g < V.heap.size; omega)).trans (HRV.out q hq)))))
              clear hrow3 hnews ho3 hg3 hl3
              refine step_append_run rfl _ _ _ rfl _ _ _ _ rfl (by rfl) hr ?_
              refine hK.out _ _ HL4.out (fun hHeld => ?_)
              clear hK K
              try simp only [Act.put, List.setIfInBounds_toArray, List.set_cons_zero, List.set_cons_succ]
              refine wpAnyH_take (i := 12) (oi := { dst := some 59, op := Go.Op.nilCheck (Go.Operand.tmp 47), type := 0, pos := "mem.go:43", after := #[{ on := 0, ground := Go.Ground.data }, { on := 0, ground := Go.Ground.phase }, { on := 1, ground := Go.Ground.phase }, { on := 2, ground := Go.Ground.phase }, { on := 3, ground := Go.Ground.phase }, { on := 4, ground := Go.Ground.phase }, { on := 5, ground := Go.Ground.phase }, { on := 6, ground := Go.Ground.phase }, { on := 7, ground := Go.Ground.phase }, { on := 8, ground := Go.Ground.phase }, { on := 9, ground := Go.Ground.phase }, { on := 10, ground := Go.Ground.phase }, { on := 11, ground := Go.Ground.phase }], guard := none }) (v := ?_) rfl (by kernel_rfl) (by kernel_rfl) (by kernel_rfl) (fun _ _ _ h => h) (Or.inl ⟨by rfl, ?_⟩) (by assumption) ?_
              rotate_left
              · (intro w0 hSw; (try dsimp only at hSw); go_split_ands; go_simp; with_reducible rfl)
              try simp only [Act.put, List.setIfInBounds_toArray, List.set_cons_zero, List.set_cons_succ]
              refine wpAnyH_take (i := 13) (oi := { dst := some 60, op := Go.Op.fieldAddr 64 (Go.Operand.tmp 59) 0, type := 0, pos := "mem.go:43", after := #[{ on := 12, ground := Go.Ground.data }, { on := 0, ground := Go.Ground.phase }, { on := 1, ground := Go.Ground.phase }, { on := 2, ground := Go.Ground.phase }, { on := 3, ground := Go.Ground.phase }, { on := 4, ground := Go.Ground.phase }, { on := 5, ground := Go.Ground.phase }, { on := 6, ground := Go.Ground.phase }, { on := 7, ground := Go.Ground.phase }, { on := 8, ground := Go.Ground.phase }, { on := 9, ground := Go.Ground.phase }, { on := 10, ground := Go.Ground.phase }, { on := 11, ground := Go.Ground.phase }], guard := none }) (v := ?_) rfl (by kernel_rfl) (by kernel_rfl) (by kernel_rfl) (fun _ _ _ h => h) (Or.inl ⟨by rfl, ?_⟩) (by assumption) ?_
              rotate_left
              · (intro w0 hSw; (try dsimp only at hSw); go_split_ands; go_simp; with_reducible rfl)
              try simp only [Act.put, List.setIfInBounds_toArray, List.set_cons_zero, List.set_cons_succ]
              refine wpAnyH_ready (rs := [14]) (by kernel_rfl) (by simp) ?_
              refine AllReadyH.cons (o := { dst := none, op := Go.Op.store 62 (Go.Operand.tmp 60) (Go.Operand.tmp 58), type := 0, pos := "mem.go:43", after := #[{ on := 13, ground := Go.Ground.data }, { on := 11, ground := Go.Ground.data }, { on := 11, ground := Go.Ground.chain }, { on := 0, ground := Go.Ground.phase }, { on := 1, ground := Go.Ground.phase }, { on := 2, ground := Go.Ground.phase }, { on := 3, ground := Go.Ground.phase }, { on := 4, ground := Go.Ground.phase }, { on := 5, ground := Go.Ground.phase }, { on := 6, ground := Go.Ground.phase }, { on := 7, ground := Go.Ground.phase }, { on := 8, ground := Go.Ground.phase }, { on := 9, ground := Go.Ground.phase }, { on := 10, ground := Go.Ground.phase }, { on := 11, ground := Go.Ground.phase }], guard := none }) rfl (fun K hK => ?_) AllReadyH.nil
              go_simp
              refine hK.out _ _ HL5.out (fun hHeld => ?_)
              clear hK K
              try simp only [Act.put, List.setIfInBounds_toArray, List.set_cons_zero, List.set_cons_succ]
              refine wpAnyH_done (by kernel_rfl) ?_ _
              clear hHeld
              go_wp2
              exact ⟨⟨k + 1, _, _, _, by omega, by simp, HST, HR5, HB5⟩, by simp [intOf]; omega⟩
        · obtain rfl : k = j := by omega
          go_wp2
          refine bodyPost_ret (v := .tuple #[.pointer (some ⟨mb, 0, none⟩), .int .i64 0]) (by simp [results, Try.results5, go_sem]) rfl ⟨HB4.out, A, S, W, X, HD.out, HS.out, .inl ⟨HOK.out, mb, v, B, C, rfl, (HM.out.done (HOK.out.ok n2 W X)).wide (fun q hq => ⟨Nat.le_trans HMW.out hq.1, hq.2⟩) (fun q hq => hq.2)⟩⟩
end Go.Proofs.Ytjcbhomfggjmhaa.Mm
