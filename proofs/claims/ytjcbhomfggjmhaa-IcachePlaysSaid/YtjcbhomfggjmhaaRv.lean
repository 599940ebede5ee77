import Derived.Test.YtjcbhomfggjmhaaRt
import Derived.Test.YtjcbhomfggjmhaaIh
namespace Go.Proofs.Ytjcbhomfggjmhaa.Mm
open Go.ChangeShapes Go.WideShapes Go.ChangeAt Go.RowKit Go.Maps
set_option linter.unusedVariables false
section
variable {w : World} {H : Wh} {V VR : Nat → Value} {S : Sd} {R : Rs} {M : Me} {K : Nat}
set_option maxRecDepth 100000 in
set_option maxHeartbeats 4000000 in
theorem looks_c (h : TwC w H V VR S R M) (e : Eqv S R) (hb : Bd 200 S) {c : Int} {a : Nat} (hk : Okk c a) :
    Calls Try.prog 13 #[.pointer (some ⟨H.ps, 0, none⟩), .pointer (some ⟨H.pr, 0, none⟩), .int .i64 c, .int .u64 (a : Nat)] w fun r w' => r = .returned (.bool true) ∧ Below w.heap.size w w' := by
  have h1 := cached_c h.hs hk
  rw [e.c] at h1
  have h3 := held_c h.hs hk
  rw [e.h] at h3
  have h5 := told_c h.hs hk.2.2
  rw [e.t] at h5
  have H1 := Lib.hid h1
  have H2 := Lib.hid (rcached_c h.hr c a)
  have H3 := Lib.hid h3
  have H4 := Lib.hid (rheld_c h.hr c a)
  have H5 := Lib.hid h5
  have H6 : Hid (∀ w', Below w.heap.size w w' → _) := Lib.hid (fun w' hb' => rtold_c (h.past (w' := w') hb').hr e.cf hk.2.2)
  have H7 : Hid (∀ w', Below w.heap.size w w' → Calls Try.prog 48 #[.pointer (some ⟨H.ps, 0, none⟩), .int .i64 c] w' fun r w2 => r = .returned (.int .i64 (wfor R.wt c R.wt.length : Nat)) ∧ w2 = w') := Lib.hid (fun w' hb' => by
    rw [← e.wait]
    exact waiting_c (h.past (w' := w') hb').hs c)
  have H8 : Hid (∀ w', Below w.heap.size w w' → _) := Lib.hid (fun w' hb' => rwaiting_c (h.past (w' := w') hb').hr c)
  have H9 : Hid (∀ w', Below w.heap.size w w' → Calls Try.prog 19 #[.pointer (some ⟨H.ps, 0, none⟩), .int .i64 c] w' fun r w2 => r = .returned (.int .i64 (wby R.wt c R.wt.length : Nat)) ∧ Below w'.heap.size w' w2) := Lib.hid (fun w' hb' => by
    rw [← e.pend]
    exact pending_c (h.past (w' := w') hb').hs c (fun d hd => by have := hb.l d hd; omega))
  have H10 : Hid (∀ w', Below w.heap.size w w' → _) := Lib.hid (fun w' hb' => rpending_c (h.past (w' := w') hb').hr c)
  clear h e hb h1 h3 h5
  generalize (lk R.cache c a).getD 0 = v1 at H1 H2
  generalize (lk R.cache c a).isSome = b1 at H1 H2
  generalize (lk R.ahead c a).getD 0 = v2 at H3 H4
  generalize (lk R.ahead c a).isSome = b2 at H3 H4
  generalize (R.at a).1 = v3 at H5 H6
  generalize (R.at a).2 = v4 at H5 H6
  generalize wfor R.wt c R.wt.length = v5 at H7 H8
  generalize wby R.wt c R.wt.length = v6 at H9 H10
  go_enter Try.func13, Try.ntmps13
  go_wp2_with (first
    | (go_at_call 42; refine H1.out.mono ?_; rintro e w1 ⟨rfl, h1⟩; obtain rfl := h1.symm)
    | (go_at_call 43; refine H2.out.mono ?_; rintro e w1 ⟨rfl, h1⟩; obtain rfl := h1.symm)
    | (go_at_call 44; refine H3.out.mono ?_; rintro e w1 ⟨rfl, h1⟩; obtain rfl := h1.symm)
    | (go_at_call 45; refine H4.out.mono ?_; rintro e w1 ⟨rfl, h1⟩; obtain rfl := h1.symm)
    | (go_at_call 46; refine H5.out.mono ?_; rintro e w1 ⟨rfl, q, rfl⟩; have HB5 : Hid (Below w.heap.size w (w.drewN q)) := Lib.hid (below_drewN (Below.refl _ _) q); generalize w.drewN q = w5 at HB5 ⊢)
    | (go_at_call 47; refine (H6.out _ HB5.out).mono ?_; rintro e w6 ⟨rfl, hb⟩; have HB6 := Lib.hid (HB5.out.trans (hb.mono HB5.out.size)); clear hb)
    | (go_at_call 48; refine (H7.out _ HB6.out).mono ?_; rintro e w7 ⟨rfl, h1⟩; obtain rfl := h1.symm)
    | (go_at_call 49; refine (H8.out _ HB6.out).mono ?_; rintro e w8 ⟨rfl, h1⟩; obtain rfl := h1.symm)
    | (go_at_call 19; refine (H9.out _ HB6.out).mono ?_; rintro e w9 ⟨rfl, hb⟩; have HB9 := Lib.hid (HB6.out.trans (hb.mono HB6.out.size)); clear hb)
    | (go_at_call 50; refine (H10.out _ HB9.out).mono ?_; rintro e w10 ⟨rfl, h1⟩; obtain rfl := h1.symm))
  go_ret
  exact ⟨rfl, HB9.out⟩
end
end Go.Proofs.Ytjcbhomfggjmhaa.Mm
