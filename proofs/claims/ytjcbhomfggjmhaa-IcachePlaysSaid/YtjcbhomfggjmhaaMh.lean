import Derived.Test.YtjcbhomfggjmhaaMg
import Derived.Test.YtjcbhomfggjmhaaLk
namespace Go.Proofs.Ytjcbhomfggjmhaa.Mm
open Go.ChangeShapes Go.WideShapes Go.ChangeAt Go.RowKit
open Go.Proofs.Ytjcbhomfggjmhaa.Lab (rowAt rowAt_cell rowAt_frz rowAt_lt rowAt_new rowAt_below rowAt_of rowAt_past rowAt_grown wpl_load wpl_store load_row grown_below)
set_option linter.unusedVariables false
theorem info113z : (Try.prog.info? 58).map (fun i => (i.zero, i.size, i.bytes)) = some (some (.agg #[.int .u64 0, .int .u64 0, .bool false, .bool false]), 4, 24) := by kernel_rfl
theorem info187z : (Try.prog.info? 67).map (fun i => (i.zero, i.size, i.bytes)) = some (some (.agg #[.int .u64 0, .int .u64 0, .bool false, .bool false, .slice none 0 0]), 5, 48) := by kernel_rfl
theorem info187 : (Try.prog.info? 67).map (·.size) = some 5 := by kernel_rfl
theorem info113 : (Try.prog.info? 58).map (·.size) = some 4 := by kernel_rfl
/-- A row of regions. -/
def rgC (M : Me) (j : Nat) : List Value := [.int .u64 (M.A j : Nat), .int .u64 (M.S j : Nat), .bool (M.W j), .bool (M.X j)]
def rgL (M : Me) : Nat → List Value
  | 0 => []
  | n + 1 => rgL M n ++ rgC M n
theorem rgL_len (M : Me) : ∀ n, (rgL M n).length = n * 4
  | 0 => rfl
  | n + 1 => by unfold rgL; rw [List.length_append, rgL_len M n]; unfold rgC; simp; omega
theorem own_past {w w' : World} {base n size : Nat} {e : TypeId} {v : Value} {xs : List Value} (h : w.ownsRow base e size v n xs) (hb : Below w.heap.size w w') : w'.ownsRow base e size v n xs := own_kept h fun g hg => hb.block g (h.lt g hg).2
theorem rgC_one (M : Me) (j : Nat) : ∀ u ∈ rgC M j, u.oneCell' = true := by
  intro u hu
  simp only [rgC, List.mem_cons, List.not_mem_nil, or_false] at hu
  rcases hu with rfl | rfl | rfl | rfl <;> rfl
section
variable {w : World} {FP : Nat → Prop} {p : Nat} {M : Me} {v : Value} {B C : Nat → Nat}
set_option maxRecDepth 100000 in
set_option maxHeartbeats 4000000 in
theorem regions_c (h : MeC 64 67 w FP p M v B C) :
    Calls Try.prog 60 #[.pointer (some ⟨p, 0, none⟩)] w fun e w' => (∃ v', e = .returned v' ∧ w'.ownsRow w.heap.size 58 4 v' M.n (rgL M M.n)) ∧ Below w.heap.size w w' := by
  have hn16 := h.ok.n16
  obtain ⟨i0, hi, hz0, hz1, hz2⟩ := info_parts info113z
  obtain ⟨w1, hr, hown, hgr⟩ := run_make_own (P := Try.prog) w w.heap.size 29 58 i0 _ 4 Try.underlying29 hi hz0 hz1 .i64 .i64 M.n (by rw [hz2]; omega) (by unfold maxLen; omega) (Nat.le_refl _)
  have HR := Lib.hid hr
  have hb1 : Below w.heap.size w w1 := ⟨hgr.os, hgr.tape, hgr.output, hgr.size, fun k hk => hgr.block k hk (by simp)⟩
  have h1 := h.past hb1
  have hcm := h.cv
  have hcm1 := h1.cv
  have H0 := Lib.hid h
  have HB1 := Lib.hid hb1
  have HO1 := Lib.hid hown
  have hp0 := h.fl p h.fp
  obtain ⟨a, cap, rfl, ha⟩ := own_form h.ars
  clear h h1 hr hb1 hown hgr
  go_enter Try.func60, Try.ntmps60
  go_wp2
  rw [HR.out]
  clear hcm HR
  go_wp2
  clear hcm1
  go_loopw [3, 17] (fun s3 s17 wr => ∃ j : Nat, j ≤ M.n ∧ s17 = .int .i64 j ∧ Hid (wr.ownsRow w.heap.size 58 4 s3 j (rgL M j)) ∧ Hid (Below w.heap.size w wr)) (fun _ s17 _ => M.n - (intOf s17).toNat)
  case atStart => exact ⟨0, by omega, rfl, HO1, HB1⟩
  case round =>
    obtain ⟨j, hj, rfl, HO, HB⟩ := hrel
    have H := Lib.hid (H0.out.past HB.out)
    by_cases hlt : j < M.n
    · obtain ⟨ab, rfl⟩ : ∃ g, a = some ⟨g, 0, none⟩ := by
        rcases ha with ha | ha
        · omega
        · exact ha
      obtain ⟨f1, f2, f3, f4, f5⟩ := H.out.area rfl j hlt
      have hab : ab < wr.heap.size := H.out.fl ab (H.out.fv ab rfl)
      have hW : Below wr.heap.size wr ((wr.alloc (.cells #[.int .u64 (M.A j : Nat), .int .u64 (M.S j : Nat), .bool (M.W j), .bool (M.X j), .slice (some ⟨B j, 0, none⟩) (M.S j) (C j)] 67)).alloc (.cells #[.int .u64 (M.A j : Nat), .int .u64 (M.S j : Nat), .bool (M.W j), .bool (M.X j)] 58)) := ((Below.refl _ _).alloc (Nat.le_refl _) _).alloc (by simp) _
      have HOx := Lib.hid (own_past HO.out hW)
      have HWs : Hid (Below w.heap.size w ((wr.alloc (.cells #[.int .u64 (M.A j : Nat), .int .u64 (M.S j : Nat), .bool (M.W j), .bool (M.X j), .slice (some ⟨B j, 0, none⟩) (M.S j) (C j)] 67)).alloc (.cells #[.int .u64 (M.A j : Nat), .int .u64 (M.S j : Nat), .bool (M.W j), .bool (M.X j)] 58))) := Lib.hid (HB.out.trans (hW.mono HB.out.size))
      have HN : Hid (∀ q u, (rgC M j)[q]? = some u → ((wr.alloc (.cells #[.int .u64 (M.A j : Nat), .int .u64 (M.S j : Nat), .bool (M.W j), .bool (M.X j), .slice (some ⟨B j, 0, none⟩) (M.S j) (C j)] 67)).alloc (.cells #[.int .u64 (M.A j : Nat), .int .u64 (M.S j : Nat), .bool (M.W j), .bool (M.X j)] 58)).cell? ((⟨wr.heap.size + 1, 0, none⟩ : Addr).add q) = some u) := Lib.hid (fun q u hu => by
        have : (⟨wr.heap.size + 1, 0, none⟩ : Addr).add q = ⟨wr.heap.size + 1, q, none⟩ := by unfold Addr.add; split <;> simp_all
        rw [this, World.cell?_alloc_at _ _ _ _ (by simp)]
        unfold rgC at hu
        rw [← Array.getElem?_toList]
        exact hu)
      have HC1 := Lib.hid (rgC_one M j)
      clear hW
      go_wp2_with (at_builtin; refine wpList_append_own _ rfl _ _ 29 rfl w.heap.size 58 i0 _ 4 24 Try.underlying29 hi hz0 hz1 hz2 rfl (by decide) _ j (rgL M j) rfl HOx.out ⟨wr.heap.size + 1, 0, none⟩ 1 1 (rgC M j) rfl rfl HN.out HC1.out (by unfold maxLen; omega) (by omega) (by have := HB.out.size; simp; omega) ?_; intro v' w2 ho hg hne; have HO2 := Lib.hid ho; have HG2 := Lib.hid hg; clear ho hg hne)
      refine ⟨⟨j + 1, by omega, by go_num, HO2, Lib.hid ?_⟩, by simp [intOf]; omega⟩
      exact HWs.out.grown HG2.out HWs.out.size (fun q hq => (HO.out.lt q hq).1)
    · obtain rfl : j = M.n := by omega
      go_wp2
      go_ret
      exact ⟨⟨_, rfl, HO.out⟩, HB.out⟩
end
end Go.Proofs.Ytjcbhomfggjmhaa.Mm
