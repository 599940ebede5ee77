import Derived.Test.YtjcbhomfggjmhaaIi
import Derived.Test.YtjcbhomfggjmhaaNb
namespace Go.Proofs.Ytjcbhomfggjmhaa.Mm
open Go.ChangeShapes Go.WideShapes Go.ChangeAt Go.RowKit Go.Maps
set_option linter.unusedVariables false
/-! ### The law's memory, and a side over it -/
def rA (i : Nat) : Nat := if i = 0 then 4096 else 4352
def rS (i : Nat) : Nat := if i = 0 then 256 else 32
def rX (i : Nat) : Bool := i == 0
/-- The law's two regions. -/
def Cfg2 (M : Me) : Prop := M.n = 2 ∧ (M.A 0 = 4096 ∧ M.S 0 = 256 ∧ M.W 0 = true ∧ M.X 0 = true) ∧ M.A 1 = 4352 ∧ M.S 1 = 32 ∧ M.W 1 = true ∧ M.X 1 = false
theorem Cfg2.cfg {M : Me} (h : Cfg2 M) : Cfg M := by
  obtain ⟨h1, ⟨h2, h3, h4, h5⟩, _, _, _, h6⟩ := h
  refine ⟨by omega, h2, h3, h5, h4, fun k h0 hk => ?_⟩
  obtain rfl : k = 1 := by omega
  exact h6
theorem pred_c (w : World) (a s : Nat) (b c : Bool) : Calls Try.prog 61 #[.agg #[.int .u64 a, .int .u64 s, .bool b, .bool c]] w fun e w' => e = .returned (.bool (!c)) ∧ Below w.heap.size w w' := by
  have HB : Hid (Below w.heap.size w (w.alloc (.cells #[.int .u64 a, .int .u64 s, .bool b, .bool c] 58))) := Lib.hid ((Below.refl _ _).alloc (Nat.le_refl _) _)
  go_enter Try.func61, Try.ntmps61
  go_wp2
  go_ret
  exact ⟨rfl, HB.out⟩
/-- Two regions, the second one not to be executed. -/
def Two (w : World) (g : Nat) : Prop := g < w.heap.size ∧ (w.cell? ⟨g, 0, none⟩ = some (.int .u64 4096) ∧ w.cell? ⟨g, 1, none⟩ = some (.int .u64 256) ∧ w.cell? ⟨g, 2, none⟩ = some (.bool true) ∧ w.cell? ⟨g, 3, none⟩ = some (.bool true)) ∧ (w.cell? ⟨g, 4, none⟩ = some (.int .u64 4352) ∧ w.cell? ⟨g, 5, none⟩ = some (.int .u64 32) ∧ w.cell? ⟨g, 6, none⟩ = some (.bool true) ∧ w.cell? ⟨g, 7, none⟩ = some (.bool false)) ∧ ∀ k, w.frozen? ⟨g, k, none⟩ = false
theorem Two.past {w w' : World} {g : Nat} (h : Two w g) (hb : Below w.heap.size w w') : Two w' g := by
  obtain ⟨h0, ⟨a, b, c, d⟩, ⟨e, f, i, j⟩, k⟩ := h
  have q : ∀ n, w'.cell? ⟨g, n, none⟩ = w.cell? ⟨g, n, none⟩ := fun n => hb.cell (p := ⟨g, n, none⟩) h0
  refine ⟨Nat.lt_of_lt_of_le h0 hb.size, ⟨?_, ?_, ?_, ?_⟩, ⟨?_, ?_, ?_, ?_⟩, fun n => (hb.frozen (p := ⟨g, n, none⟩) h0).trans (k n)⟩ <;> rw [q] <;> assumption
set_option maxRecDepth 100000 in
set_option maxHeartbeats 4000000 in
theorem index_c (w : World) (g cp : Nat) (h : Two w g) : Calls Try.prog 71 #[.slice (some ⟨g, 0, none⟩) 2 cp, .func (.func 61) #[] #[]] w fun e w' => e = .returned (.int .i64 1) ∧ Below w.heap.size w w' := by
  have H := Lib.hid h
  obtain ⟨_, ⟨a0, a1, a2, a3⟩, ⟨b0, b1, b2, b3⟩, _⟩ := h
  have HP := Lib.hid (pred_c w 4096 256 true true)
  go_enter Try.func71, Try.ntmps71
  go_wp2
  refine wp_loop_rounds 3 ?_
  rw [rounds_succ]
  go_wp2_with (go_at_call 61; refine HP.out.mono ?_; rintro e w1 ⟨rfl, hb⟩; have HB1 := Lib.hid hb; have H1 := Lib.hid (H.out.past hb); obtain ⟨_, _, ⟨c0, c1, c2, c3⟩, _⟩ := H1.out; have HP2 := Lib.hid (pred_c w1 4352 32 true false); clear hb)
  rw [rounds_succ]
  go_wp2_with (go_at_call 61; refine HP2.out.mono ?_; rintro e w2 ⟨rfl, hb⟩; have HB2 := Lib.hid (HB1.out.trans (hb.mono HB1.out.size)); clear hb)
  go_ret
  exact ⟨rfl, HB2.out⟩
set_option maxRecDepth 100000 in
set_option maxHeartbeats 4000000 in
/-- What is left of them: the first one. -/
theorem delfunc_c (w : World) (g cp : Nat) (h : Two w g) (hcp : 2 ≤ cp) : Calls Try.prog 59 #[.slice (some ⟨g, 0, none⟩) 2 cp, .func (.func 61) #[] #[]] w fun e w' => e = .returned (.slice (some ⟨g, 0, none⟩) 1 cp) ∧ (w'.cell? ⟨g, 0, none⟩ = some (.int .u64 4096) ∧ w'.cell? ⟨g, 1, none⟩ = some (.int .u64 256) ∧ w'.cell? ⟨g, 2, none⟩ = some (.bool true) ∧ w'.cell? ⟨g, 3, none⟩ = some (.bool true)) ∧ g < w'.heap.size ∧ Below g w w' := by
  have HI := Lib.hid (index_c w g cp h)
  have H := Lib.hid h
  have k1 : (1 : Int) ≤ cp := by omega
  have k2 : (2 : Int) ≤ cp := by omega
  clear h
  go_enter Try.func59, Try.ntmps59
  go_wp2_with (go_at_call 71; refine HI.out.mono ?_; rintro e w1 ⟨rfl, hb⟩; have H1 := Lib.hid (H.out.past hb); have HB1 := Lib.hid hb; clear hb)
  refine wp_loop_rounds 1 ?_
  rw [rounds_succ]
  have HCL : Hid (∀ ty, (Builtin.clear_ #[29] ty #[.slice (some ⟨g, 4, none⟩) 1 (cp - 1)]).run Try.prog w1 = .ok (.tuple #[]) (w1.setCells g 4 [.int .u64 0, .int .u64 0, .bool false, .bool false])) := Lib.hid (fun ty => by
    obtain ⟨_, _, ⟨b0, b1, b2, b3⟩, hf⟩ := H1.out
    have hzc : (Builtin.zeroCells (Value.agg #[.int .u64 0, .int .u64 0, .bool false, .bool false]).cells 1).toList = [.int .u64 0, .int .u64 0, .bool false, .bool false] := by kernel_rfl
    have hst := run_storeCells_cells (P := Try.prog) g 4 [.int .u64 0, .int .u64 0, .bool false, .bool false] 0 w1 (fun q hq => by
      have hq : q < 4 := hq
      have : q = 0 ∨ q = 1 ∨ q = 2 ∨ q = 3 := by omega
      rcases this with rfl | rfl | rfl | rfl
      · rw [show (4 + (0 + 0) : Nat) = 4 from rfl, b0]; rfl
      · rw [show (4 + (0 + 1) : Nat) = 5 from rfl, b1]; rfl
      · rw [show (4 + (0 + 2) : Nat) = 6 from rfl, b2]; rfl
      · rw [show (4 + (0 + 3) : Nat) = 7 from rfl, b3]; rfl) (fun q _ => hf _) (by intro v hv; simp only [List.mem_cons, List.not_mem_nil, or_false] at hv; rcases hv with rfl | rfl | rfl | rfl <;> rfl)
    have hz : ∀ w : World, (zeroValue 58).run Try.prog w = .ok (.agg #[.int .u64 0, .int .u64 0, .bool false, .bool false]) w := fun w => by kernel_rfl
    simp only [Nat.add_zero] at hst
    simp [Builtin.clear_, run_underlying Try.underlying29, hz, hzc, hst])
  have HFI : Hid (((w1.setCells g 4 [.int .u64 0, .int .u64 0, .bool false, .bool false]).cell? ⟨g, 0, none⟩ = some (.int .u64 4096) ∧ (w1.setCells g 4 [.int .u64 0, .int .u64 0, .bool false, .bool false]).cell? ⟨g, 1, none⟩ = some (.int .u64 256) ∧ (w1.setCells g 4 [.int .u64 0, .int .u64 0, .bool false, .bool false]).cell? ⟨g, 2, none⟩ = some (.bool true) ∧ (w1.setCells g 4 [.int .u64 0, .int .u64 0, .bool false, .bool false]).cell? ⟨g, 3, none⟩ = some (.bool true)) ∧ g < (w1.setCells g 4 [.int .u64 0, .int .u64 0, .bool false, .bool false]).heap.size ∧ Below g w (w1.setCells g 4 [.int .u64 0, .int .u64 0, .bool false, .bool false])) := Lib.hid (by
    obtain ⟨hg, ⟨a0, a1, a2, a3⟩, _, _⟩ := H1.out
    have hgr := setCells_grown [.int .u64 0, .int .u64 0, .bool false, .bool false] 4 w1 g
    have q : ∀ k, k < 4 → (w1.setCells g 4 [.int .u64 0, .int .u64 0, .bool false, .bool false]).cell? ⟨g, k, none⟩ = w1.cell? ⟨g, k, none⟩ := fun k hk => by
      show ((((w1.setCell ⟨g, 4, none⟩ _).setCell ⟨g, 5, none⟩ _).setCell ⟨g, 6, none⟩ _).setCell ⟨g, 7, none⟩ _).cell? _ = _
      rw [World.cell?_setCell_other _ _ _ _ (by intro e; injection e; omega), World.cell?_setCell_other _ _ _ _ (by intro e; injection e; omega), World.cell?_setCell_other _ _ _ _ (by intro e; injection e; omega), World.cell?_setCell_other _ _ _ _ (by intro e; injection e; omega)]
    refine ⟨⟨?_, ?_, ?_, ?_⟩, Nat.lt_of_lt_of_le hg hgr.size, (HB1.out.mono (Nat.le_of_lt H.out.1)).grown hgr (Nat.le_of_lt hg) (fun k hk => by injection hk with hk; omega)⟩
    · rw [q 0 (by omega)]; exact a0
    · rw [q 1 (by omega)]; exact a1
    · rw [q 2 (by omega)]; exact a2
    · rw [q 3 (by omega)]; exact a3)
  have k0 : ¬ cp = 1 := by omega
  go_wp2
  rw [HCL.out]
  go_wp2
  go_ret
  exact ⟨rfl, HFI.out⟩
theorem two_of {w : World} {base g cp : Nat} {M : Me} (ho : w.ownsRow base 58 4 (.slice (some ⟨g, 0, none⟩) 2 cp) 2 (rgL M 2)) (h : Cfg2 M) : Two w g := by
  obtain ⟨_, ⟨h2, h3, h4, h5⟩, h6, h7, h8, h9⟩ := h
  obtain ⟨c, f⟩ := own_cells ho
  have e : rgL M 2 = [.int .u64 4096, .int .u64 256, .bool true, .bool true, .int .u64 4352, .int .u64 32, .bool true, .bool false] := by
    show ([] ++ rgC M 0) ++ rgC M 1 = _
    unfold rgC
    rw [h2, h3, h4, h5, h6, h7, h8, h9]
    rfl
  rw [e] at c
  exact ⟨(ho.lt g rfl).2, ⟨c 0 _ rfl, c 1 _ rfl, c 2 _ rfl, c 3 _ rfl⟩, ⟨c 4 _ rfl, c 5 _ rfl, c 6 _ rfl, c 7 _ rfl⟩, f⟩
theorem src_one {w : World} {g cp : Nat} (hcp : 2 ≤ cp) (hg : g < w.heap.size) (a0 : w.cell? ⟨g, 0, none⟩ = some (.int .u64 4096)) (a1 : w.cell? ⟨g, 1, none⟩ = some (.int .u64 256)) (a2 : w.cell? ⟨g, 2, none⟩ = some (.bool true)) (a3 : w.cell? ⟨g, 3, none⟩ = some (.bool true)) :
    RgSrc w (.slice (some ⟨g, 0, none⟩) 1 cp) 1 (fun _ => 4096) (fun _ => 256) (fun _ => true) (fun _ => true) := ⟨_, cp, rfl, by omega, fun _ => ⟨_, rfl, hg, fun q hq => by
  rw [Go.WideShapes.add_plain, Nat.zero_add]
  have : q = 0 ∨ q = 1 ∨ q = 2 ∨ q = 3 := by omega
  rcases this with rfl | rfl | rfl | rfl
  · exact a0
  · exact a1
  · exact a2
  · exact a3⟩⟩
theorem new_one (w : World) (u : Value) (A S : Nat → Nat) (W X : Nat → Bool) (hb : RgSrc w u 1 A S W X) (hr : rightOne (A 0) (S 0)) :
    Calls Try.prog 5 #[u] w fun e w' => (∃ mb v B C, e = .returned (.tuple #[.pointer (some ⟨mb, 0, none⟩), .int .i64 0]) ∧ MeC 64 67 w' (fun k => w.heap.size ≤ k ∧ k < w'.heap.size) mb (zMe 1 (fun _ => A 0) (fun _ => S 0) (fun _ => W 0) (fun _ => X 0)) v B C) ∧ Below w.heap.size w w' := by
  refine (new_c w u 1 _ _ _ _ hb (by omega)).mono ?_
  rintro e w' ⟨hbw, A', S', W', X', ⟨π, h1, _, rfl, rfl, rfl, rfl⟩, _, ⟨_, mb, v, B, C, rfl, hm⟩ | ⟨hn, _⟩⟩
  · have hp : π 0 = 0 := by have := h1 0 (by omega); omega
    refine ⟨⟨mb, v, B, C, rfl, hm.alike ⟨rfl, fun k hk => ?_, fun k hk => ?_, fun k hk => ?_, fun k hk => ?_, fun _ _ _ _ => rfl⟩ fun _ _ => by show 0 < 256; omega⟩, hbw⟩ <;> (have hk : k < 1 := hk; obtain rfl : k = 0 := by omega) <;> simp only [zMe, hp]
  · refine absurd ?_ hn
    intro i hi
    obtain rfl : i = 0 := by omega
    have hp : π 0 = 0 := by have := h1 0 (by omega); omega
    exact ⟨by simp only [hp]; exact hr, Nat.zero_le _⟩
/-- The memory of what may be executed. -/
def T0 (M : Me) : Me := ⟨1, fun _ => 4096, fun _ => 256, fun _ => true, fun _ => true, fun _ i => M.y 0 i⟩
theorem T0_cfg (M : Me) : Cfg (T0 M) := ⟨by show 0 < 1; omega, rfl, rfl, rfl, rfl, fun k h0 hk => by have hk : k < 1 := hk; omega⟩
set_option maxRecDepth 100000 in
set_option maxHeartbeats 8000000 in
theorem exec_c {w : World} {FM : Nat → Prop} {m : Nat} {M : Me} {vm : Value} {Bm Cm : Nat → Nat} (h : MeC 64 67 w FM m M vm Bm Cm) (hM : Cfg2 M) :
    Calls Try.prog 27 #[.pointer (some ⟨m, 0, none⟩)] w fun e w' => (∃ t v B C FT, e = .returned (.tuple #[.pointer (some ⟨t, 0, none⟩), .int .i64 0]) ∧ MeC 64 67 w' FT t (T0 M) v B C ∧ ∀ k, FT k → w.heap.size ≤ k) ∧ Below w.heap.size w w' := by
  have H := Lib.hid h
  have HR := Lib.hid (regions_c h)
  have HM := Lib.hid hM
  rw [hM.1] at HR
  clear h hM
  go_enter Try.func27, Try.ntmps27
  go_wp2_with (first
    | (go_at_call 60; refine HR.out.mono ?_; rintro e w1 ⟨⟨v', rfl, ho⟩, hb⟩; obtain ⟨g, cp, rfl, hg0, hg1⟩ := own_pos ho (by omega); have HB1 := Lib.hid hb; have HCP := Lib.hid (own_cap ho); have HTW : Hid (Two w1 g) := Lib.hid (two_of ho HM.out); clear ho hb)
    | (go_at_call 59; refine (delfunc_c w1 g cp HTW.out HCP.out).mono ?_; rintro e w2 ⟨rfl, ⟨a0, a1, a2, a3⟩, hg2, hb⟩; have HB2 := Lib.hid (HB1.out.trans (hb.mono hg0)); have HSR : Hid (RgSrc w2 (.slice (some ⟨g, 0, none⟩) 1 cp) 1 (fun _ => 4096) (fun _ => 256) (fun _ => true) (fun _ => true)) := Lib.hid (src_one HCP.out hg2 a0 a1 a2 a3); have HA := Lib.hid (show _ ∧ _ ∧ _ ∧ _ from ⟨a0, a1, a2, a3⟩); clear hb a0 a1 a2 a3)
    | (go_at_call 5; refine (new_one w2 _ _ _ _ _ HSR.out ⟨by decide, by decide, by decide, by decide, by decide⟩).mono ?_; rintro e w3 ⟨⟨t, v, B, C, rfl, hm⟩, hb⟩; have HT := Lib.hid hm; have HB3' := Lib.hid hb; have HB3 := Lib.hid (HB2.out.trans (hb.mono HB2.out.size)); clear hm hb))
  have b0 := (HB3'.out.cell (p := ⟨g, 0, none⟩) hg2).trans HA.out.1
  have b1 := (HB3'.out.cell (p := ⟨g, 1, none⟩) hg2).trans HA.out.2.1
  have b2 := (HB3'.out.cell (p := ⟨g, 2, none⟩) hg2).trans HA.out.2.2.1
  have b3 := (HB3'.out.cell (p := ⟨g, 3, none⟩) hg2).trans HA.out.2.2.2
  have hbx : Below w3.heap.size w3 (w3.alloc (.cells #[.int .u64 4096, .int .u64 256, .bool true, .bool true] 58)) := (Below.refl _ _).alloc (Nat.le_refl _) _
  have HBX : Hid (Below w.heap.size w (w3.alloc (.cells #[.int .u64 4096, .int .u64 256, .bool true, .bool true] 58))) := Lib.hid (HB3.out.trans (hbx.mono HB3.out.size))
  have HMx := Lib.hid (H.out.past HBX.out)
  have HTx := Lib.hid (HT.out.past hbx)
  have HSZ : Hid (w3.heap.size < (w3.alloc (.cells #[.int .u64 4096, .int .u64 256, .bool true, .bool true] 58)).heap.size) := Lib.hid (by simp)
  have HHM : Hid (Hs M 4096 256 0 0) := Lib.hid ⟨by rw [HM.out.1]; omega, by rw [HM.out.2.1.1], by rw [HM.out.2.1.2.1]; omega, by rw [HM.out.2.1.2.1]; omega⟩
  have HCY := Lib.hid (copy_y HMx.out HHM.out)
  have q0 : (w3.alloc (.cells #[.int .u64 4096, .int .u64 256, .bool true, .bool true] 58)).cell? ⟨w3.heap.size, 0, none⟩ = some (.int .u64 4096) := World.cell?_alloc_at _ _ _ _ rfl
  have HFI : Hid (∀ w5, MeC 64 67 w5 (fun k => w2.heap.size ≤ k ∧ k < w3.heap.size) t ((zMe 1 (fun _ => 4096) (fun _ => 256) (fun _ => true) (fun _ => true)).ld 0 0 (M.cut 0 0 256)) v B C → MeC 64 67 w5 (fun k => w2.heap.size ≤ k ∧ k < w3.heap.size) t (T0 M) v B C) := Lib.hid (fun w5 hm => hm.alike (by
    obtain ⟨s1, s2, s3, s4, s5⟩ := ld_same 0 (M.cut 0 0 256) (zMe 1 (fun _ => 4096) (fun _ => 256) (fun _ => true) (fun _ => true)) 0
    refine ⟨s1, fun k _ => by rw [s2]; rfl, fun k _ => by rw [s3]; rfl, fun k _ => by rw [s4]; rfl, fun k _ => by rw [s5]; rfl, fun k o hk ho => ?_⟩
    rw [s1] at hk
    have hk : k < 1 := hk
    obtain rfl : k = 0 := by omega
    rw [s3] at ho
    have ho : o < 256 := ho
    rw [ld_y, if_pos ⟨rfl, Nat.zero_le _, by rw [cut_len]; omega⟩]
    show (M.cut 0 0 256).getD (o - 0) 0 = M.y 0 o
    unfold Me.cut
    rw [List.getD_eq_getElem?_getD, Nat.sub_zero, List.getElem?_map, List.getElem?_range ho]
    simp) (fun k o => H.out.ok.byt 0 o))
  have HFB := Lib.hid (fun k (hk : w2.heap.size ≤ k ∧ k < w3.heap.size) => Nat.le_trans HB2.out.size hk.1)
  clear hbx
  refine wp_loop_rounds 2 ?_
  rw [rounds_succ]
  go_wp2_with (first
    | (go_at_call 62; refine HCY.out.mono ?_; rintro e w5 ⟨⟨v5, rfl, ho5⟩, hb5⟩; obtain ⟨g5, cp5, rfl, _, _⟩ := own_pos ho5 (by omega); have HBY : Hid (Bys w5 (.slice (some ⟨g5, 0, none⟩) 256 cp5) (M.cut 0 0 256)) := Lib.hid (by have := bys_own (y := fun i => M.y 0 (0 + i)) (by rw [show (M.cut 0 0 256).map (fun c => Value.int .u8 (c : Nat)) = byL (fun i => M.y 0 (0 + i)) 256 by unfold Me.cut byL; rw [List.map_map]; rfl] at ho5; exact ho5); exact this); have HB5 := Lib.hid (HBX.out.trans (hb5.mono HBX.out.size)); have HT5 := Lib.hid (HTx.out.past hb5); have q5 := (hb5.cell (p := ⟨w3.heap.size, 0, none⟩) HSZ.out).trans q0; clear ho5 hb5)
    | (go_at_call 8; refine (load_y HT5.out (x := 4096) (k := 0) (o := 0) (l := M.cut 0 0 256) (by rw [cut_len]; exact ⟨Nat.zero_lt_one, rfl, by show 0 < 256; omega, by show 0 + 256 ≤ 256; omega⟩) HBY.out (fun c hc => by unfold Me.cut at hc; obtain ⟨i, _, rfl⟩ := List.mem_map.1 hc; exact H.out.ok.byt 0 _)).mono ?_; rintro e w6 ⟨rfl, hm6, hk6⟩; have HM6 := Lib.hid (HFI.out w6 hm6); have HB6 := Lib.hid (HB5.out.trans (hk6.below (B := w.heap.size) HB5.out.size HFB.out)); clear hm6 hk6))
  rw [rounds_succ]
  go_wp2
  refine bodyPost_ret (v := .tuple #[.pointer (some ⟨t, 0, none⟩), .int .i64 0]) (by simp [results, Try.results27, go_sem]) rfl ⟨⟨t, v, B, C, _, rfl, HM6.out, HFB.out⟩, HB6.out⟩
end Go.Proofs.Ytjcbhomfggjmhaa.Mm
