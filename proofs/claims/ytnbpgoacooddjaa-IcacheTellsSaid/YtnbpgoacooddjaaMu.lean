import Derived.Test.YtnbpgoacooddjaaMt
namespace Go.Proofs.Ytnbpgoacooddjaa.Mm
open Go.ChangeShapes Go.WideShapes Go.ChangeAt Go.RowKit
set_option linter.unusedVariables false
section
variable {w : World} {FP : Nat → Prop} {p : Nat} {M : Me} {v : Value} {B C : Nat → Nat}
set_option maxRecDepth 100000 in
set_option maxHeartbeats 4000000 in
theorem rcopy_y (h : MeC 213 215 w FP p M v B C) {x k o m : Nat} (hs : Hs M x m k o) :
    Calls Try.prog 148 #[.pointer (some ⟨p, 0, none⟩), .int .u64 x, .int .i64 m] w fun e w' => (∃ v', e = .returned (.tuple #[v', .int .i64 0]) ∧ w'.ownsRow w.heap.size 5 1 v' m ((M.cut k o m).map fun c => .int .u8 (c : Nat))) ∧ Below w.heap.size w w' := by
  obtain ⟨ab, cap, hv⟩ := Hs.form' h hs
  obtain ⟨hx0, hm16⟩ := hs.lt h.ok
  have HI := Lib.hid (in_y h hs)
  have HA : Hid (∀ w1, Below w.heap.size w w1 → w1.cell? ⟨p, 0, none⟩ = some v ∧ w1.cell? ⟨ab, k * 5, none⟩ = some (.int .u64 (M.A k : Nat)) ∧ w1.cell? ⟨ab, k * 5 + 4, none⟩ = some (.slice (some ⟨B k, 0, none⟩) (M.S k) (C k)) ∧ p < w1.heap.size ∧ ab < w1.heap.size) := Lib.hid (fun w1 hb => by
    obtain ⟨f1, f2, f3, f4, f5⟩ := (h.past hb).area hv k hs.1
    exact ⟨(h.past hb).cv, f1, f5, (h.past hb).fl p h.fp, (h.past hb).fl ab (h.fv ab (by rw [hv]; rfl))⟩)
  have HSRC : Hid (∀ w1, Below w.heap.size w w1 → ∀ j u, ((M.cut k o m).map fun c => Value.int .u8 (c : Nat))[j]? = some u → (w1.alloc (.cells #[] 5)).cell? ((⟨B k, o, none⟩ : Addr).add j) = some u) := Lib.hid (fun w1 hb j u hj => by
    have h2 := h.past (hb.alloc hb.size (.cells #[] 5))
    rw [List.getElem?_map] at hj
    have hjl : j < m := by
      rcases Nat.lt_or_ge j m with h3 | h3
      · exact h3
      · rw [List.getElem?_eq_none (by rw [cut_len]; exact h3)] at hj; cases hj
    unfold Me.cut at hj
    rw [List.getElem?_map, List.getElem?_range hjl] at hj
    injection hj with hj
    subst hj
    have : (⟨B k, o, none⟩ : Addr).add j = ⟨B k, o + j, none⟩ := by unfold Addr.add; split <;> simp_all
    rw [this]
    exact h2.cell hs.1 (by have := hs.2.2.2; omega))
  have HL : Hid (((M.cut k o m).map fun c => Value.int .u8 (c : Nat)).length = m * 1) := Lib.hid (by rw [List.length_map, cut_len]; omega)
  have H1 : Hid (∀ u ∈ ((M.cut k o m).map fun c => Value.int .u8 (c : Nat)), u.oneCell' = true) := Lib.hid (fun u hu => by obtain ⟨c, _, rfl⟩ := List.mem_map.1 hu; rfl)
  have hSC := h.cap hs.1
  have gk : (k : Int) < M.n := by have := hs.1; omega
  have hkn : k < M.n := hs.1
  have hos : o < M.S k := hs.2.2.1
  have hom : o + m ≤ M.S k := hs.2.2.2
  have hS16 := (h.ok.sz k hs.1).2.1
  have hwm : IntKind.u64.wrap (m : Int) = (m : Int) := by rw [IntKind.wrap_u64]; omega
  have hw1 : IntKind.u64.wrap ((x : Int) - (M.A k : Int)) = (o : Int) := by obtain ⟨_, hx, _, _⟩ := hs; rw [IntKind.wrap_u64]; omega
  have hw2 : IntKind.u64.wrap ((o : Int) + (m : Int)) = (o : Int) + (m : Int) := by rw [IntKind.wrap_u64]; omega
  obtain ⟨cs, hcs⟩ : ∃ cs, ((M.cut k o m).map fun c => Value.int .u8 (c : Nat)) = cs := ⟨_, rfl⟩
  rw [hcs] at HSRC HL H1 ⊢
  obtain ⟨i0, hi, hz0, hz1, hz2⟩ := info_parts info5z
  have ho1 : (0 : Int) ≤ (o : Int) := by omega
  have ho2 : (o : Int) ≤ (o : Int) + (m : Int) := by omega
  have ho3 : (o : Int) + (m : Int) ≤ (C k : Int) := by omega
  have ho4 : ((o : Int) + (m : Int)).toNat = o + m := by omega
  have ho5 : ¬ C k - o = 0 := by omega
  have ho6 : o + m - o = m := by omega
  subst hv
  clear h hs hcs hx0
  go_enter Try.func148, Try.ntmps148
  go_wp2_with (first | (go_at_call 140; refine HI.out.mono ?_; rintro e w1 ⟨rfl, hb⟩; obtain ⟨hcm, f1, f5, hpl, habl⟩ := HA.out w1 hb; have HN := Lib.hid (HSRC.out w1 hb); have HB := Lib.hid hb; have HO : Hid ((w1.alloc (.cells #[] 5)).ownsRow w.heap.size 5 1 (.slice (some ⟨w1.heap.size, 0, none⟩) 0 0) 0 []) := Lib.hid (World.ownsRow_made w1 #[] 0 hb.size (by unfold maxLen; omega) rfl); clear hb) | (at_builtin; refine wpList_append_own _ rfl _ _ 114 rfl w.heap.size 5 i0 _ 1 1 Try.underlying114 hi hz0 hz1 hz2 rfl (by decide) _ 0 [] rfl HO.out ⟨B k, o, none⟩ m (C k - o) cs rfl HL.out HN.out H1.out (by unfold maxLen; omega) (by omega) (by have := HB.out.size; simp; omega) ?_; intro v' w2 ho hg hne; have HO2 : Hid (w2.ownsRow w.heap.size 5 1 v' m cs) := Lib.hid (by simpa using ho); have HG2 := Lib.hid hg; clear ho hg hne))
  refine bodyPost_ret (v := .tuple #[v', .int .i64 0]) (by simp [results, Try.results148, go_sem]) rfl ⟨⟨_, rfl, HO2.out⟩, ?_⟩
  exact (HB.out.alloc HB.out.size _).grown HG2.out (by have := HB.out.size; simp; omega) (fun q hq => (HO.out.lt q hq).1)
set_option maxRecDepth 100000 in
set_option maxHeartbeats 4000000 in
theorem rcopy_n (h : MeC 213 215 w FP p M v B C) {x : Nat} {m : Int} (hx : x < 18446744073709551616) (hm : m ≤ 9223372036854775807) (hm0 : 0 ≤ m) (hno : ∀ k o K : Nat, m = K → ¬ Hs M x K k o) :
    Calls Try.prog 148 #[.pointer (some ⟨p, 0, none⟩), .int .u64 x, .int .i64 m] w fun e w' => e = .returned (.tuple #[.slice none 0 0, .int .i64 8]) ∧ Below w.heap.size w w' := by
  obtain ⟨n, rfl⟩ : ∃ n : Nat, m = n := ⟨m.toNat, by omega⟩
  have HI := Lib.hid (in_n h hx (m := n) (by omega) (fun k o => hno k o n rfl))
  have hwm : IntKind.u64.wrap (n : Int) = (n : Int) := by rw [IntKind.wrap_u64]; omega
  clear h hno
  go_enter Try.func148, Try.ntmps148
  go_wp2_with (go_at_call 140; refine HI.out.mono ?_; rintro e w1 ⟨rfl, hb⟩; have HB := Lib.hid hb; clear hb)
  refine bodyPost_ret (v := .tuple #[.slice none 0 0, .int .i64 8]) (by simp [results, Try.results148, go_sem]) rfl ⟨rfl, HB.out⟩
set_option maxRecDepth 100000 in
theorem rcopy_z (w : World) (u : Value) {x : Nat} {m : Int} (hm0 : m < 0) :
    Calls Try.prog 148 #[u, .int .u64 x, .int .i64 m] w fun e w' => e = .returned (.tuple #[.slice none 0 0, .int .i64 8]) ∧ w' = w := by
  have d : decide (m < 0) = true := decide_eq_true hm0
  go_enter Try.func148, Try.ntmps148
  go_wp2
  refine bodyPost_ret (v := .tuple #[.slice none 0 0, .int .i64 8]) (by simp [results, Try.results148, go_sem]) rfl ⟨rfl, rfl⟩
end
end Go.Proofs.Ytnbpgoacooddjaa.Mm
