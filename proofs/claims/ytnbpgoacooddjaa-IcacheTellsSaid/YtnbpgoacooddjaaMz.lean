import Derived.Test.YtnbpgoacooddjaaMy
import Derived.Laws.BytesString
namespace Go.Proofs.Ytnbpgoacooddjaa.Mm
open Go.ChangeShapes Go.WideShapes Go.ChangeAt Go.RowKit
set_option linter.unusedVariables false
/-- The string of these bytes. -/
def sOf (l : List Nat) : ByteArray := (l.map fun c : Nat => (c : Int)).foldl (fun r n => r.push (UInt8.ofNat n.toNat)) ByteArray.empty
theorem str_own {w : World} {b : Nat} {v : Value} {l : List Nat} (h : w.ownsRow b 5 1 v l.length (l.map fun c => .int .u8 (c : Nat))) : (convert 114 9 v).run Try.prog w = .ok (.string (sOf l)) w := by
  rcases h.2 with ⟨rfl, h0⟩ | ⟨g, cap, cur, hv, hb, hg, hc, hm, hs, ht⟩
  · have : l = [] := List.length_eq_zero_iff.1 h0
    subst this
    rw [run_convert_bytes_string w 114 9 5 none 0 0 Try.underlying114 Try.underlying5 Try.underlying9]
    simp [Conv.bytesToString, sOf, Sem.run_pure]
  · subst hv
    rw [run_convert_bytes_string w 114 9 5 _ _ _ Try.underlying114 Try.underlying5 Try.underlying9]
    refine run_bytesToString w _ _ _ (l.map fun c : Nat => (c : Int)) ?_
    have := run_loadCells_list (P := Try.prog) w ⟨g, 0, none⟩ (l.map fun c => Value.int .u8 (c : Nat)) (fun j u hj => by
      have e : (⟨g, 0, none⟩ : Addr).add j = ⟨g, j, none⟩ := by unfold Addr.add; split <;> simp_all
      rw [e]
      exact (own_cells h).1 j u hj)
    rw [List.length_map] at this
    rw [this, List.map_map]
    rfl
set_option maxRecDepth 100000 in
set_option maxHeartbeats 4000000 in
theorem looks_c {w : World} {F1 F2 : Nat → Prop} {p1 p2 : Nat} {M : Me} (h : Bo w F1 F2 p1 p2 M) (x : Nat) (m : Int) (hx : x < 18446744073709551616) (hm : m ≤ 9223372036854775807) :
    Calls Try.prog 67 #[.pointer (some ⟨p1, 0, none⟩), .pointer (some ⟨p2, 0, none⟩), .int .u64 x, .int .i64 m] w fun e w' => e = .returned (.bool true) ∧ Below w.heap.size w w' := by
  have H := Lib.hid h
  clear h
  by_cases hmm : 65536 < m
  · have dm : decide (65536 < m) = true := decide_eq_true hmm
    go_enter Try.func67, Try.ntmps67
    go_wp2_with (first
      | (go_at_call 139; obtain ⟨a, r, ha, hn1, hn2⟩ := bo_read H.out x hx; have HN1 := Lib.hid hn2; refine hn1.mono ?_; clear hn1 hn2; rintro e w1 ⟨rfl, hb⟩; have HB1 := Lib.hid hb; clear hb)
      | (go_at_call 142; refine (HN1.out _ HB1.out).mono ?_; rintro e w2 ⟨rfl, hb⟩; have HB2 := Lib.hid (HB1.out.trans (hb.mono HB1.out.size)); clear hb)
      | (go_at_call 138; obtain ⟨b, s, hb0, hn1, hn2⟩ := bo_byte (H.out.past HB2.out) x hx; have HN3 := Lib.hid hn2; refine hn1.mono ?_; clear hn1 hn2; rintro e w3 ⟨rfl, hb⟩; have HB3' := Lib.hid hb; have HB3 := Lib.hid (HB2.out.trans (hb.mono HB2.out.size)); clear hb)
      | (go_at_call 143; refine (HN3.out _ HB3'.out).mono ?_; rintro e w4 ⟨rfl, hb⟩; have HB4 := Lib.hid (HB3.out.trans (hb.mono HB3.out.size)); clear hb)
      | (go_at_call 128; obtain ⟨c, t, hc0, hn1, hn2⟩ := bo_word (H.out.past HB4.out) x hx; have HN5 := Lib.hid hn2; refine hn1.mono ?_; clear hn1 hn2; rintro e w5 ⟨rfl, hb⟩; have HB5' := Lib.hid hb; have HB5 := Lib.hid (HB4.out.trans (hb.mono HB4.out.size)); clear hb)
      | (go_at_call 144; refine (HN5.out _ HB5'.out).mono ?_; rintro e w6 ⟨rfl, hb⟩; have HB6 := Lib.hid (HB5.out.trans (hb.mono HB5.out.size)); clear hb)
      | (go_at_call 145; obtain ⟨ga, gs, gw, gx, gd, hn1, hn2⟩ := bo_at (H.out.past HB6.out) x hx; have HN7 := Lib.hid hn2; refine hn1.mono ?_; clear hn1 hn2; rintro e w7 ⟨rfl, hb⟩; have HB7' := Lib.hid hb; have HB7 := Lib.hid (HB6.out.trans (hb.mono HB6.out.size)); clear hb)
      | (go_at_call 146; refine (HN7.out (w7.alloc (.cells #[.int .u64 ga, .int .u64 gs, .bool gw, .bool gx] 113)) (HB7'.out.alloc HB7'.out.size _)).mono ?_; rintro e w8 ⟨rfl, hb⟩; have hl7 : w7.heap.size < (w7.alloc (.cells #[.int .u64 ga, .int .u64 gs, .bool gw, .bool gx] 113)).heap.size := (by simp); have y0 := (hb.cell (p := ⟨w7.heap.size, 0, none⟩) hl7).trans (World.cell?_alloc_at _ _ _ _ rfl); have y1 := (hb.cell (p := ⟨w7.heap.size, 1, none⟩) hl7).trans (World.cell?_alloc_at _ _ _ _ rfl); have y2 := (hb.cell (p := ⟨w7.heap.size, 2, none⟩) hl7).trans (World.cell?_alloc_at _ _ _ _ rfl); have y3 := (hb.cell (p := ⟨w7.heap.size, 3, none⟩) hl7).trans (World.cell?_alloc_at _ _ _ _ rfl); have hl8 : w7.heap.size < w8.heap.size := Nat.lt_of_lt_of_le hl7 hb.size; have HB8 := Lib.hid ((HB7.out.alloc HB7.out.size (.cells #[.int .u64 ga, .int .u64 gs, .bool gw, .bool gx] 113)).trans (hb.mono (by have := HB7.out.size; simp; omega))); have HB9 := Lib.hid (HB8.out.alloc HB8.out.size (.cells #[.int .u64 ga, .int .u64 gs, .bool gw, .bool gx] 113)); clear hb)
      | (go_at_call 147; obtain ⟨l, rr, hl, hn1, hn2⟩ := bo_copy (H.out.past HB9.out) x 65536 hx (by omega); have HN10 := Lib.hid hn2; have HLL := Lib.hid hl; refine hn1.mono ?_; clear hn1 hn2 hl; rintro e w10 ⟨⟨va, rfl, ho⟩, hb⟩; have HO1 := Lib.hid ho; have HB10' := Lib.hid hb; have HB10 := Lib.hid (HB9.out.trans (hb.mono HB9.out.size)); clear ho hb)
      | (go_at_call 148; refine (HN10.out _ HB10'.out).mono ?_; rintro e w11 ⟨⟨vb, rfl, ho⟩, hb⟩; have HO2 := Lib.hid ho; have HO1b := Lib.hid (own_past HO1.out hb); have HB11 := Lib.hid (HB10.out.trans (hb.mono HB10.out.size)); clear ho hb))
    rw [str_own HO1b.out]
    go_wp2
    rw [str_own HO2.out]
    go_wp2
    go_ret
    exact ⟨rfl, HB11.out⟩
  · have dm : decide (65536 < m) = false := decide_eq_false hmm
    go_enter Try.func67, Try.ntmps67
    go_wp2_with (first
      | (go_at_call 139; obtain ⟨a, r, ha, hn1, hn2⟩ := bo_read H.out x hx; have HN1 := Lib.hid hn2; refine hn1.mono ?_; clear hn1 hn2; rintro e w1 ⟨rfl, hb⟩; have HB1 := Lib.hid hb; clear hb)
      | (go_at_call 142; refine (HN1.out _ HB1.out).mono ?_; rintro e w2 ⟨rfl, hb⟩; have HB2 := Lib.hid (HB1.out.trans (hb.mono HB1.out.size)); clear hb)
      | (go_at_call 138; obtain ⟨b, s, hb0, hn1, hn2⟩ := bo_byte (H.out.past HB2.out) x hx; have HN3 := Lib.hid hn2; refine hn1.mono ?_; clear hn1 hn2; rintro e w3 ⟨rfl, hb⟩; have HB3' := Lib.hid hb; have HB3 := Lib.hid (HB2.out.trans (hb.mono HB2.out.size)); clear hb)
      | (go_at_call 143; refine (HN3.out _ HB3'.out).mono ?_; rintro e w4 ⟨rfl, hb⟩; have HB4 := Lib.hid (HB3.out.trans (hb.mono HB3.out.size)); clear hb)
      | (go_at_call 128; obtain ⟨c, t, hc0, hn1, hn2⟩ := bo_word (H.out.past HB4.out) x hx; have HN5 := Lib.hid hn2; refine hn1.mono ?_; clear hn1 hn2; rintro e w5 ⟨rfl, hb⟩; have HB5' := Lib.hid hb; have HB5 := Lib.hid (HB4.out.trans (hb.mono HB4.out.size)); clear hb)
      | (go_at_call 144; refine (HN5.out _ HB5'.out).mono ?_; rintro e w6 ⟨rfl, hb⟩; have HB6 := Lib.hid (HB5.out.trans (hb.mono HB5.out.size)); clear hb)
      | (go_at_call 145; obtain ⟨ga, gs, gw, gx, gd, hn1, hn2⟩ := bo_at (H.out.past HB6.out) x hx; have HN7 := Lib.hid hn2; refine hn1.mono ?_; clear hn1 hn2; rintro e w7 ⟨rfl, hb⟩; have HB7' := Lib.hid hb; have HB7 := Lib.hid (HB6.out.trans (hb.mono HB6.out.size)); clear hb)
      | (go_at_call 146; refine (HN7.out (w7.alloc (.cells #[.int .u64 ga, .int .u64 gs, .bool gw, .bool gx] 113)) (HB7'.out.alloc HB7'.out.size _)).mono ?_; rintro e w8 ⟨rfl, hb⟩; have hl7 : w7.heap.size < (w7.alloc (.cells #[.int .u64 ga, .int .u64 gs, .bool gw, .bool gx] 113)).heap.size := (by simp); have y0 := (hb.cell (p := ⟨w7.heap.size, 0, none⟩) hl7).trans (World.cell?_alloc_at _ _ _ _ rfl); have y1 := (hb.cell (p := ⟨w7.heap.size, 1, none⟩) hl7).trans (World.cell?_alloc_at _ _ _ _ rfl); have y2 := (hb.cell (p := ⟨w7.heap.size, 2, none⟩) hl7).trans (World.cell?_alloc_at _ _ _ _ rfl); have y3 := (hb.cell (p := ⟨w7.heap.size, 3, none⟩) hl7).trans (World.cell?_alloc_at _ _ _ _ rfl); have hl8 : w7.heap.size < w8.heap.size := Nat.lt_of_lt_of_le hl7 hb.size; have HB8 := Lib.hid ((HB7.out.alloc HB7.out.size (.cells #[.int .u64 ga, .int .u64 gs, .bool gw, .bool gx] 113)).trans (hb.mono (by have := HB7.out.size; simp; omega))); have HB9 := Lib.hid (HB8.out.alloc HB8.out.size (.cells #[.int .u64 ga, .int .u64 gs, .bool gw, .bool gx] 113)); clear hb)
      | (go_at_call 147; obtain ⟨l, rr, hl, hn1, hn2⟩ := bo_copy (H.out.past HB9.out) x m hx (by omega); have HN10 := Lib.hid hn2; have HLL := Lib.hid hl; refine hn1.mono ?_; clear hn1 hn2 hl; rintro e w10 ⟨⟨va, rfl, ho⟩, hb⟩; have HO1 := Lib.hid ho; have HB10' := Lib.hid hb; have HB10 := Lib.hid (HB9.out.trans (hb.mono HB9.out.size)); clear ho hb)
      | (go_at_call 148; refine (HN10.out _ HB10'.out).mono ?_; rintro e w11 ⟨⟨vb, rfl, ho⟩, hb⟩; have HO2 := Lib.hid ho; have HO1b := Lib.hid (own_past HO1.out hb); have HB11 := Lib.hid (HB10.out.trans (hb.mono HB10.out.size)); clear ho hb))
    rw [str_own HO1b.out]
    go_wp2
    rw [str_own HO2.out]
    go_wp2
    go_ret
    exact ⟨rfl, HB11.out⟩
end Go.Proofs.Ytnbpgoacooddjaa.Mm
