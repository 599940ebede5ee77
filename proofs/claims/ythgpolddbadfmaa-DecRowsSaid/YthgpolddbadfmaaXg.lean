import Derived.Test.YthgpolddbadfmaaXc
import Derived.Test.YthgpolddbadfmaaOpn
import Derived.Test.YthgpolddbadfmaaXd
namespace Go.Proofs.Ythgpolddbadfmaa
open Go.ChangeShapes Go.WideShapes Go.ChangeAt Go.RowKit Go.Shelf
set_option linter.unusedVariables false
theorem or_sum2 (a b : Int) (k : Nat) (ha : 0 ≤ a ∧ a < 2 ^ k) (hb : 0 ≤ b) (hm : b % 2 ^ k = 0) (ha' : a < 4294967296) (hb' : b < 4294967296) : bits .or .u32 a b = a + b := by
  rw [u32_or a b ha.1 ha' hb hb']
  obtain ⟨A, rfl⟩ := Int.eq_ofNat_of_zero_le ha.1
  obtain ⟨B, rfl⟩ := Int.eq_ofNat_of_zero_le hb
  have h1 : B % 2 ^ k = 0 := by
    have : ((B % 2 ^ k : Nat) : Int) = 0 := by simpa using hm
    omega
  have h2 : A < 2 ^ k := by
    have : ((A : Nat) : Int) < ((2 ^ k : Nat) : Int) := by simpa using ha.2
    omega
  rw [Int.toNat_natCast, Int.toNat_natCast, Nat.or_comm, nat_join k B A h1 h2]
  simp [Int.add_comm]
theorem wd_range (G : Nat → Int) (hG : ∀ j, 0 ≤ G j ∧ G j < 256) (k : Nat) : 0 ≤ wd G k ∧ wd G k < 4294967296 := by
  have g0 := hG (4 * k)
  have g1 := hG (4 * k + 1)
  have g2 := hG (4 * k + 2)
  have g3 := hG (4 * k + 3)
  unfold wd
  rw [or_sum2 (G (4 * k)) _ 8 (by simp only [show (2 : Int) ^ 8 = 256 from rfl]; omega) (by omega) (by simp only [show (2 : Int) ^ 8 = 256 from rfl]; omega) (by omega) (by omega)]
  rw [or_sum2 _ (G (4 * k + 2) * 65536) 16 (by simp only [show (2 : Int) ^ 16 = 65536 from rfl]; omega) (by omega) (by simp only [show (2 : Int) ^ 16 = 65536 from rfl]; omega) (by omega) (by omega)]
  rw [or_sum2 _ (G (4 * k + 3) * 16777216) 24 (by simp only [show (2 : Int) ^ 24 = 16777216 from rfl]; omega) (by omega) (by simp only [show (2 : Int) ^ 24 = 16777216 from rfl]; omega) (by omega) (by omega)]
  omega
theorem dec_pick (F : Nat → Int) (hF : ∀ k, 0 ≤ F k ∧ F k < 4294967296) : ∃ E : Nat → I7r, ∀ k, DecP (F k) (E k).o (E k).d (E k).n (E k).m (E k).a (E k).c (E k).i := by
  have h : ∀ k, ∃ x : I7r, DecP (F k) x.o x.d x.n x.m x.a x.c x.i := fun k => by
    obtain ⟨o, d, n, m, a, c, i, _, hP⟩ := dec_or (F k) (hF k).1 (hF k).2
    exact ⟨⟨o, d, n, m, a, c, i⟩, hP⟩
  exact ⟨fun k => Classical.choose (h k), fun k => Classical.choose_spec (h k)⟩
/-- A slice of words that comes in. -/
theorem words_open {H : Type} {enc : TypeId × Value → H} {W : World} {base : Nat} {spare : Nat → Bool} {held : Bool} {a : Option Addr} {n cap : Nat} {d : DataW H} {p : List MemPlace}
    (h : DataW.Trod enc Try.prog W base spare held 34 (.slice a n cap) d p) : n ≤ maxLen ∧ ∃ F, SrcW W a n F ∧ ∀ k, 0 ≤ F k ∧ F k < 4294967296 := by
  obtain ⟨fuel, hf⟩ := h
  rcases open_ints Try.underlying34 Try.underlying25 (by kernel_rfl) hf with ⟨hcs, _⟩ | ⟨x, l, c, zs, hcs, _, hl, hm, hz, _, hcell, hwz⟩
  · simp [Value.cells] at hcs
    obtain ⟨rfl, rfl, rfl⟩ := hcs
    exact ⟨by unfold maxLen; omega, fun _ => 0, .inl rfl, fun _ => by show (0 : Int) ≤ 0 ∧ (0 : Int) < 4294967296; decide⟩
  · simp [Value.cells] at hcs
    obtain ⟨rfl, rfl, rfl⟩ := hcs
    have hzl : n ≤ zs.length := by rw [hz]; split <;> omega
    refine ⟨Nat.le_trans hl hm, fun k => zs.getD k 0, ?_, fun k => ?_⟩
    · by_cases h0 : n = 0
      · exact .inl h0
      · obtain ⟨b, off, spot⟩ := x
        have z0 := hcell 0 (by omega)
        have hspot : spot = none := by simpa [Addr.add] using World.cell?_spot z0
        subst hspot
        have hb : b < W.heap.size := World.block_lt_of_cell? W ⟨b, off, none⟩ (by simpa [Addr.add] using z0)
        exact .inr ⟨b, off, rfl, hb, fun j hj => by have := hcell j (by omega); rwa [Go.WideShapes.add_plain] at this⟩
    · by_cases hk : k < zs.length
      · have hmem : zs.getD k 0 ∈ zs := by
          rw [List.getD_eq_getElem?_getD, List.getElem?_eq_getElem hk]
          exact List.getElem_mem hk
        have := hwz _ hmem
        simp [Lit.wf, IntKind.min, IntKind.max, IntKind.signed, IntKind.bits] at this
        simp only [List.getD_eq_getElem?_getD] at this ⊢
        omega
      · show 0 ≤ zs.getD k 0 ∧ zs.getD k 0 < 4294967296
        rw [List.getD_eq_getElem?_getD, List.getElem?_eq_none (by omega)]
        exact ⟨Int.le_refl 0, by show (0 : Int) < 4294967296; decide⟩
/-- A slice of bytes that comes in. -/
theorem bytes_open {H : Type} {enc : TypeId × Value → H} {W : World} {base : Nat} {spare : Nat → Bool} {held : Bool} {a : Option Addr} {n cap : Nat} {d : DataW H} {p : List MemPlace}
    (h : DataW.Trod enc Try.prog W base spare held 37 (.slice a n cap) d p) : n ≤ maxLen ∧ ∃ G, SrcB W a n G ∧ ∀ k, 0 ≤ G k ∧ G k < 256 := by
  obtain ⟨fuel, hf⟩ := h
  rcases open_ints Try.underlying37 Try.underlying5 (by kernel_rfl) hf with ⟨hcs, _⟩ | ⟨x, l, c, zs, hcs, _, hl, hm, hz, _, hcell, hwz⟩
  · simp [Value.cells] at hcs
    obtain ⟨rfl, rfl, rfl⟩ := hcs
    exact ⟨by unfold maxLen; omega, fun _ => 0, .inl rfl, fun _ => by show (0 : Int) ≤ 0 ∧ (0 : Int) < 256; decide⟩
  · simp [Value.cells] at hcs
    obtain ⟨rfl, rfl, rfl⟩ := hcs
    have hzl : n ≤ zs.length := by rw [hz]; split <;> omega
    refine ⟨Nat.le_trans hl hm, fun k => zs.getD k 0, ?_, fun k => ?_⟩
    · by_cases h0 : n = 0
      · exact .inl h0
      · obtain ⟨b, off, spot⟩ := x
        have z0 := hcell 0 (by omega)
        have hspot : spot = none := by simpa [Addr.add] using World.cell?_spot z0
        subst hspot
        have hb : b < W.heap.size := World.block_lt_of_cell? W ⟨b, off, none⟩ (by simpa [Addr.add] using z0)
        exact .inr ⟨b, off, rfl, hb, fun j hj => by have := hcell j (by omega); rwa [Go.WideShapes.add_plain] at this⟩
    · by_cases hk : k < zs.length
      · have hmem : zs.getD k 0 ∈ zs := by
          rw [List.getD_eq_getElem?_getD, List.getElem?_eq_getElem hk]
          exact List.getElem_mem hk
        have := hwz _ hmem
        simp [Lit.wf, IntKind.min, IntKind.max, IntKind.signed, IntKind.bits] at this
        simp only [List.getD_eq_getElem?_getD] at this ⊢
        omega
      · show 0 ≤ zs.getD k 0 ∧ zs.getD k 0 < 256
        rw [List.getD_eq_getElem?_getD, List.getElem?_eq_none (by omega)]
        exact ⟨Int.le_refl 0, by show (0 : Int) < 256; decide⟩
set_option maxRecDepth 100000 in
set_option maxHeartbeats 4000000 in
theorem decrows_big (A : Option Addr) (n cap : Nat) (B : Option Addr) (m capb : Nat) (stop : Int) (w : World) (hn : n ≤ maxLen) (hm : m ≤ maxLen) (hbig : 200 < n ∨ 800 < m) :
    Calls Try.prog 7 #[.slice A n cap, .slice B m capb, .int .i64 stop] w fun e w' => e = .returned (.bool true) ∧ Below w.heap.size w w' := by
  refine (callsIn_wide (n := 5)).1 ?_
  refine callsIn_of_wp_marks Try.func7 rfl trivial ?_ rfl
  simp only [Try.ntmps7, List.size_toArray, List.length_cons, List.length_nil, Nat.reduceAdd, Nat.reduceSub, Array.replicate_succ, Array.replicate_zero, List.push_toArray, List.append_toArray, List.nil_append, List.cons_append]
  refine wpIn_wide.2 ?_
  go_wp2_with (fail)
  refine (known17_c _).mono ?_
  rintro e w1 ⟨rfl, hb1⟩
  have HBA : Hid (Below w.heap.size w w1) := Lib.hid (((((Below.refl _ _).alloc (Nat.le_refl _) _).alloc (by simp) _).alloc (by simp; omega) _).trans (hb1.mono (by simp; omega)))
  have bL1 : Boxed w1 w.heap.size 34 (.slice A n cap) := (hb1.block _ (by simp; omega)).trans (((Boxed.new w 34 (.slice A n cap)).alloc (.cells #[.int .i64 stop] 3)).alloc (.cells #[.bool false] 4))
  have bR1 : Boxed w1 (w.heap.size + 1 + 1) 4 (.bool false) := by
    have := Boxed.new ((w.alloc (.cells #[.slice A n cap] 34)).alloc (.cells #[.int .i64 stop] 3)) 4 (.bool false)
    have h2 := (hb1.block _ this.lt).trans this
    rwa [World.size_alloc, World.size_alloc] at h2
  have cL1 := bL1.cell
  have cR1 := bR1.cell
  have fR1 := bR1.frozen
  have HR1 := Lib.hid bR1
  clear hb1 bL1 bR1
  by_cases h : 200 < n
  · have dn : decide (200 < (n : Int)) = true := decide_eq_true (by omega)
    go_wp2
    have hc := (HR1.out.set (.bool true)).cell
    refine ⟨.bool true, ?_, rfl, HBA.out.setCell (p := ⟨w.heap.size + 1 + 1, 0, none⟩) (by show w.heap.size ≤ w.heap.size + 1 + 1; omega) _⟩
    simp [results, Try.f7, go_sem, hc]
  · have dn : decide (200 < (n : Int)) = false := decide_eq_false (by omega)
    have dm : decide (800 < (m : Int)) = true := decide_eq_true (by omega)
    go_wp2
    have hc := (HR1.out.set (.bool true)).cell
    refine ⟨.bool true, ?_, rfl, HBA.out.setCell (p := ⟨w.heap.size + 1 + 1, 0, none⟩) (by show w.heap.size ≤ w.heap.size + 1 + 1; omega) _⟩
    simp [results, Try.f7, go_sem, hc]
end Go.Proofs.Ythgpolddbadfmaa
namespace Go.Proofs.Ythgpolddbadfmaa
open Go.ChangeShapes Go.WideShapes Go.ChangeAt Go.RowKit Go.Shelf
set_option linter.unusedVariables false
theorem decrows_any (A : Option Addr) (n cap : Nat) (F : Nat → Int) (B : Option Addr) (m capb : Nat) (G : Nat → Int) (stop : Int) (w : World) (hn : n ≤ maxLen) (hA : SrcW w A n F ∧ ∀ k, 0 ≤ F k ∧ F k < 4294967296) (hm : m ≤ maxLen) (hB : SrcB w B m G ∧ ∀ k, 0 ≤ G k ∧ G k < 256) :
    Calls Try.prog 7 #[.slice A n cap, .slice B m capb, .int .i64 stop] w fun e w' => e = .returned (.bool true) ∧ Below w.heap.size w w' := by
  by_cases hbig : 200 < n ∨ 800 < m
  · exact decrows_big A n cap B m capb stop w hn hm hbig
  · obtain ⟨E, hE⟩ := dec_pick F hA.2
    obtain ⟨E2, hE2⟩ := dec_pick (wd G) (wd_range G hB.2)
    exact decrows_y A n cap F E B m capb G E2 stop w (by omega) (by omega) (Lib.hid hB.1) (Lib.hid hB.2)
      (Lib.hid (fun q k _ w => dec_u (wd_range G hB.2 k).1 (wd_range G hB.2 k).2 (hE2 k) w)) (Lib.hid (fun k w => rins_u (wd_range G hB.2 k).1 (wd_range G hB.2 k).2 (hE2 k) w))
      (Lib.hid hA.1) (Lib.hid (fun k _ w => dec_u (hA.2 k).1 (hA.2 k).2 (hE k) w)) (Lib.hid (fun k _ w => rins_u (hA.2 k).1 (hA.2 k).2 (hE k) w))
end Go.Proofs.Ythgpolddbadfmaa
