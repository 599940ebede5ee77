import Derived.Test.YtjcbhomfggjmhaaIj
namespace Go.Proofs.Ytjcbhomfggjmhaa.Mm
open Go.ChangeShapes Go.WideShapes Go.ChangeAt Go.RowKit Go.Maps
set_option linter.unusedVariables false
theorem info202z : (Try.prog.info? 103).map (fun i => (i.zero, i.size, i.bytes)) = some (some (.slice none 0 0), 1, 24) := by kernel_rfl
theorem made_w (s : Nat) : (madeCells #[.slice none 0 0] s).toList = (List.range s).map fun _ => Value.slice none 0 0 := by
  apply List.ext_getElem?
  intro k
  by_cases hk : k < s
  · rw [List.getElem?_map, List.getElem?_range hk, Array.getElem?_toList, Array.getElem?_eq_getElem (by rw [size_madeCells]; exact hk)]
    simp [madeCells, Nat.mod_one]
  · rw [List.getElem?_eq_none (by rw [Array.length_toList, size_madeCells]; omega), List.getElem?_eq_none (by simp; omega)]
theorem make_w (w : World) (s : Nat) (hs : s ≤ 4) : ∃ w', (Instr.makeSlice 78 (.int .i64 s) (.int .i64 s)).run Try.prog w = .ok (.slice (some ⟨w.heap.size, 0, none⟩) s s) w' ∧ w'.ownsRow w.heap.size 103 1 (.slice (some ⟨w.heap.size, 0, none⟩) s s) s ((List.range s).map fun _ => Value.slice none 0 0) ∧ Below w.heap.size w w' := by
  obtain ⟨i0, hi, hz0, hz1, hz2⟩ := info_parts info202z
  obtain ⟨w', h1, h2, h3⟩ := run_make_full (P := Try.prog) w w.heap.size 78 103 i0 _ 1 Try.underlying78 hi hz0 hz1 .i64 .i64 s (by rw [hz2]; omega) (by unfold maxLen; omega) (Nat.le_refl _)
  refine ⟨w', h1, ?_, ⟨h3.os, h3.tape, h3.output, h3.size, fun k hk => h3.block k hk (by simp)⟩⟩
  rw [← made_w s]
  simpa [Value.cells] using h2
/-- A side as it is made. -/
def S0 (M : Me) (c : Nat) : Sd := ⟨c, T0 M, fun _ _ => none, fun _ _ => none, 0, fun _ => []⟩
set_option maxRecDepth 100000 in
set_option maxHeartbeats 4000000 in
theorem side_c {w : World} {FM : Nat → Prop} {m : Nat} {M : Me} {vm : Value} {Bm Cm : Nat → Nat} (h : MeC 64 67 w FM m M vm Bm Cm) (hM : Cfg2 M) {c : Nat} (h1 : 1 ≤ c) (h4 : c ≤ 4) :
    Calls Try.prog 10 #[.pointer (some ⟨m, 0, none⟩), .int .i64 c] w fun e w' => (∃ p L V, e = .returned (.tuple #[.pointer (some ⟨p, 0, none⟩), .int .i64 0]) ∧ SdC w' (fun k => k < w.heap.size) p L V (S0 M c) ∧ L.m = m) ∧ Below w.heap.size w w' := by
  have HX := Lib.hid (exec_c h hM)
  have d1 : decide ((c : Int) < 1) = false := decide_eq_false (by omega)
  have d2 : decide ((4 : Int) < (c : Int)) = false := decide_eq_false (by omega)
  have d3 : decide (c < 1) = false := decide_eq_false (by omega)
  have d4 : decide (4 < c) = false := decide_eq_false (by omega)
  have hmm := @run_makeMap Try.prog
  have HMK := Lib.hid (fun W => make_w W c h4)
  clear h hM
  go_enter Try.func10, Try.ntmps10
  go_upto_region 6 with (go_at_call 27; refine HX.out.mono ?_; rintro e w1 ⟨⟨t, v, B, C, FT, rfl, hm, hF⟩, hb⟩; have HM := Lib.hid hm; have HF := Lib.hid hF; have HB1 := Lib.hid hb; clear hm hF hb)
  have hb2 : Below w1.heap.size w1 (w1.alloc (.map #[] 0)) := (Below.refl _ _).alloc (Nat.le_refl _) _
  have hb3 : Below w1.heap.size w1 ((w1.alloc (.map #[] 0)).alloc (.map #[] 0)) := hb2.alloc (by simp) _
  obtain ⟨w4, hmk, ho4, hb4⟩ := HMK.out ((w1.alloc (.map #[] 0)).alloc (.map #[] 0))
  have HMC : Hid (MpAt w4 w1.heap.size 0 (fun _ _ => none)) := Lib.hid (((MpAt.made w1).kept (heap_alloc_old _ _ (by simp))).kept (hb4.block _ (by simp; omega)))
  have HMH : Hid (MpAt w4 (w1.heap.size + 1) 0 (fun _ _ => none)) := Lib.hid ((by have := MpAt.made (w1.alloc (.map #[] 0)); rw [show (w1.alloc (.map #[] 0)).heap.size = w1.heap.size + 1 by simp] at this; exact this : MpAt ((w1.alloc (.map #[] 0)).alloc (.map #[] 0)) (w1.heap.size + 1) 0 (fun _ _ => none)).kept (hb4.block _ (by simp)))
  have hb4' : Below w1.heap.size w1 w4 := hb3.trans (hb4.mono (by simp; omega))
  have HB4 := Lib.hid hb4'
  have HM4 := Lib.hid (HM.out.past hb4')
  have HO4 := Lib.hid ho4
  rw [show ((w1.alloc (.map #[] 0)).alloc (.map #[] 0)).heap.size = w1.heap.size + 1 + 1 by simp] at hmk HO4
  have hs4 : w1.heap.size + 2 < w4.heap.size := (by have := (HO4.out.lt _ rfl).2; omega)
  have HS4 := Lib.hid hs4
  have HFI : Hid (SdC (w4.alloc (.cells #[.pointer (some ⟨m, 0, none⟩), .pointer (some ⟨t, 0, none⟩), .map (some w1.heap.size), .map (some (w1.heap.size + 1)), .slice (some ⟨w1.heap.size + 1 + 1, 0, none⟩) c c] 80)) (fun k => k < w.heap.size) w4.heap.size ⟨m, t, w1.heap.size, w1.heap.size + 1, w1.heap.size + 1 + 1, v, B, C, FT⟩ (fun _ => .slice none 0 0) (S0 M c)) := Lib.hid (by
    have hbl : Below w4.heap.size w4 (w4.alloc (.cells #[.pointer (some ⟨m, 0, none⟩), .pointer (some ⟨t, 0, none⟩), .map (some w1.heap.size), .map (some (w1.heap.size + 1)), .slice (some ⟨w1.heap.size + 1 + 1, 0, none⟩) c c] 80)) := (Below.refl _ _).alloc (Nat.le_refl _) _
    have hsz := HB1.out.size
    have hft : ∀ k, FT k → k < w1.heap.size := HM.out.fl
    exact ⟨heap_alloc_new _ _, HM4.out.past hbl, T0_cfg M, HMC.out.kept (hbl.block _ HMC.out.lt), HMH.out.kept (hbl.block _ HMH.out.lt), own_past (own_raise HO4.out (by omega)) hbl, fun d _ => ⟨rfl, .inl ⟨rfl, rfl⟩⟩, fun a b _ _ _ _ => rfl, by show w1.heap.size ≠ w1.heap.size + 1; omega, by show ¬ (w4.heap.size < w.heap.size); omega, by show ¬ (w1.heap.size < w.heap.size); omega, by show ¬ (w1.heap.size + 1 < w.heap.size); omega, by show ¬ (w1.heap.size + 1 + 1 < w.heap.size); omega, fun k hk => (by have := HF.out k hk; show ¬ (k < w.heap.size); omega), fun d _ q hq => (by cases hq), fun k hk => (by have hk : k < w.heap.size := hk; simp; omega), ⟨fun hf => (by have := hft w4.heap.size hf; omega), fun hf => (by have := hft w1.heap.size hf; omega), fun hf => (by have := hft (w1.heap.size + 1) hf; omega), fun hf => (by have := hft (w1.heap.size + 1 + 1) hf; omega)⟩, fun d _ q hq => (by cases hq), ⟨(by show 0 < c; omega), h4⟩⟩)
  have HBF : Hid (Below w.heap.size w (w4.alloc (.cells #[.pointer (some ⟨m, 0, none⟩), .pointer (some ⟨t, 0, none⟩), .map (some w1.heap.size), .map (some (w1.heap.size + 1)), .slice (some ⟨w1.heap.size + 1 + 1, 0, none⟩) c c] 80))) := Lib.hid ((HB1.out.trans (HB4.out.mono HB1.out.size)).alloc (by have := HB1.out.size; omega) _)
  have HMK4 := Lib.hid hmk
  clear hb2 hb3 hb4 hb4' ho4 hmk HMK
  go_wp2
  rw [HMK4.out]
  go_wp2
  refine bodyPost_ret (v := .tuple #[.pointer (some ⟨w4.heap.size, 0, none⟩), .int .i64 0]) (by simp [results, Try.results10, go_sem]) rfl ⟨⟨_, _, _, rfl, HFI.out, rfl⟩, HBF.out⟩
/-! ### The law's memory -/
def iM : Me := zMe 2 rA rS (fun _ => true) rX
theorem iM_cfg : Cfg2 iM := ⟨rfl, ⟨rfl, rfl, rfl, rfl⟩, rfl, rfl, rfl, rfl⟩
theorem ld_cfg2 {M : Me} (h : Cfg2 M) (o : Nat) (l : List Nat) (k : Nat) : Cfg2 (M.ld k o l) := by
  obtain ⟨s1, s2, s3, s4, s5⟩ := ld_same k l M o
  unfold Cfg2
  rw [s1, s2, s3, s4, s5]
  exact h
theorem regs_c (w : World) : Calls Try.prog 6 #[] w fun e w' => (∃ u, e = .returned u ∧ RgSrc w' u 2 rA rS (fun _ => true) rX) ∧ Below w.heap.size w w' := by
  have HB : Hid (Below w.heap.size w (w.alloc (.cells #[.int .u64 4096, .int .u64 256, .bool true, .bool true, .int .u64 4352, .int .u64 32, .bool true, .bool false] 58))) := Lib.hid ((Below.refl _ _).alloc (Nat.le_refl _) _)
  have HS : Hid (RgSrc (w.alloc (.cells #[.int .u64 4096, .int .u64 256, .bool true, .bool true, .int .u64 4352, .int .u64 32, .bool true, .bool false] 58)) (.slice (some ⟨w.heap.size, 0, none⟩) 2 2) 2 rA rS (fun _ => true) rX) := Lib.hid ⟨_, 2, rfl, Nat.le_refl _, fun _ => ⟨⟨w.heap.size, 0, none⟩, rfl, by simp, fun q hq => by
    rw [Go.WideShapes.add_plain, Nat.zero_add, World.cell?_alloc_at _ _ _ _ rfl]
    have : q = 0 ∨ q = 1 ∨ q = 2 ∨ q = 3 ∨ q = 4 ∨ q = 5 ∨ q = 6 ∨ q = 7 := by omega
    rcases this with rfl | rfl | rfl | rfl | rfl | rfl | rfl | rfl <;> rfl⟩⟩
  go_enter Try.func6, Try.ntmps6
  go_wp2
  go_ret
  exact ⟨⟨_, rfl, HS.out⟩, HB.out⟩
theorem new_two (w : World) (u : Value) (hb : RgSrc w u 2 rA rS (fun _ => true) rX) :
    Calls Try.prog 5 #[u] w fun e w' => (∃ mb v B C, e = .returned (.tuple #[.pointer (some ⟨mb, 0, none⟩), .int .i64 0]) ∧ MeC 64 67 w' (fun k => w.heap.size ≤ k ∧ k < w'.heap.size) mb iM v B C) ∧ Below w.heap.size w w' := by
  have hD : RightD rA rS 2 := by
    refine ⟨fun i hi => ?_, fun i k hi hk hne => ?_⟩
    · have : i = 0 ∨ i = 1 := by omega
      rcases this with rfl | rfl
      · exact ⟨by decide, by decide, by decide, by decide, by decide⟩
      · exact ⟨by decide, by decide, by decide, by decide, by decide⟩
    · have h1 : i = 0 ∨ i = 1 := by omega
      have h2 : k = 0 ∨ k = 1 := by omega
      rcases h1 with rfl | rfl <;> rcases h2 with rfl | rfl
      · exact absurd rfl hne
      · exact .inl (by decide)
      · exact .inr (by decide)
      · exact absurd rfl hne
  refine (new_c w u 2 _ _ _ _ hb (by omega)).mono ?_
  rintro e w' ⟨hbw, A, S, W, X, hd, hs, ⟨hR, mb, v, B, C, rfl, hm⟩ | ⟨hn, _⟩⟩
  · have hq := Dat.uniq hd (Dat.refl 2 rA rS (fun _ => true) rX) hR.strict (fun i j hij hj => by
      have h1 : i = 0 := by omega
      have h2 : j = 1 := by omega
      subst h1 h2
      decide)
    exact ⟨⟨mb, v, B, C, rfl, hm.alike ⟨rfl, fun k hk => (hq k hk).1, fun k hk => (hq k hk).2.1, fun k hk => (hq k hk).2.2.1, fun k hk => (hq k hk).2.2.2, fun _ _ _ _ => rfl⟩ fun _ _ => by show 0 < 256; omega⟩, hbw⟩
  · exact absurd (RightD.toR hd hs hD) hn
end Go.Proofs.Ytjcbhomfggjmhaa.Mm
