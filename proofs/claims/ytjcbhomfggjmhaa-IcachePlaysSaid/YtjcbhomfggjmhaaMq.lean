import Derived.Test.YtjcbhomfggjmhaaMn
namespace Go.Proofs.Ytjcbhomfggjmhaa.Mm
open Go.ChangeShapes Go.WideShapes Go.ChangeAt Go.RowKit
set_option linter.unusedVariables false
section
variable {w : World} {FP : Nat → Prop} {p : Nat} {M : Me} {v : Value} {B C : Nat → Nat}
set_option maxRecDepth 100000 in
set_option maxHeartbeats 4000000 in
/-- What the document's in (140) tells. -/
theorem in_c (h : MeC 70 72 w FP p M v B C) (x m : Nat) (hx : x < 18446744073709551616) (hm : m < 18446744073709551616) :
    Calls Try.prog 26 #[.pointer (some ⟨p, 0, none⟩), .int .u64 x, .int .u64 m] w fun e w' => (((∃ k o, Hs M x m k o ∧ e = .returned (.int .i64 k))) ∨ ((∀ k o, ¬ Hs M x m k o) ∧ e = .returned (.int .i64 (-1)))) ∧ Below w.heap.size w w' := by
  have H0 := Lib.hid h
  have hn16 := h.ok.n16
  have HS := Lib.hid h.ok.sz
  obtain ⟨a, cap, rfl, ha⟩ := own_form h.ars
  clear h
  go_enter Try.func26, Try.ntmps26
  go_wp2
  go_loopw [7, 8] (fun i _ wr => ∃ j : Nat, j ≤ M.n ∧ i = .int .i64 j ∧ Hid (∀ i, i < j → ∀ o, ¬ Hs M x m i o) ∧ Hid (Below w.heap.size w wr)) (fun i _ _ => M.n + 1 - (intOf i).toNat)
  case atStart => exact ⟨0, by omega, rfl, Lib.hid (fun i hi => by omega), Lib.hid (Below.refl _ _)⟩
  case round =>
    obtain ⟨j, hj, rfl, HN, HB⟩ := hrel
    have H := Lib.hid (H0.out.past HB.out)
    have hcm := H.out.cv
    by_cases hjn : j < M.n
    · obtain ⟨ab, rfl⟩ : ∃ g, a = some ⟨g, 0, none⟩ := by
        rcases ha with ha | ha
        · omega
        · exact ha
      obtain ⟨f1, f2, f3, f4, f5⟩ := H.out.area rfl j hjn
      have hab : ab < wr.heap.size := H.out.fl ab (H.out.fv ab rfl)
      have hpr : p < wr.heap.size := H.out.fl p H.out.fp
      have gj : (j : Int) < M.n := by omega
      obtain ⟨s0, s1, s2, _, _⟩ := HS.out j hjn
      have HB2 : Hid (Below w.heap.size w (wr.alloc (.cells #[.int .u64 (M.A j : Nat), .int .u64 (M.S j : Nat), .bool (M.W j), .bool (M.X j)] 58))) := Lib.hid (HB.out.alloc HB.out.size _)
      by_cases hlt : x < M.A j
      · have d0 : decide (M.A j ≤ x) = false := decide_eq_false (by omega)
        have HNo : Hid (∀ o, ¬ Hs M x m j o) := Lib.hid (fun o ⟨_, e, _⟩ => by omega)
        go_wp2
        refine ⟨⟨j + 1, by omega, by simp, Lib.hid (fun i hi o => ?_), HB2⟩, by simp [intOf]; omega⟩
        rcases Nat.lt_or_ge i j with hi2 | hi2
        · exact HN.out i hi2 o
        · obtain rfl : i = j := by omega
          exact HNo.out o
      · obtain ⟨t, ht, t1, t2⟩ := wrap_near x (M.A j) (by omega) hx
        have d0 : decide (M.A j ≤ x) = true := decide_eq_true (by omega)
        by_cases hin : x - M.A j < M.S j
        · have d1 : decide (t < (M.S j : Int)) = true := decide_eq_true (by omega)
          obtain ⟨u, hu, u1, u2⟩ : ∃ u : Int, IntKind.u64.wrap ((M.S j : Int) - t) = u ∧ u ≤ ((M.S j - (x - M.A j) : Nat) : Int) ∧ ((M.S j - (x - M.A j) : Nat) : Int) ≤ u := ⟨_, rfl, by rw [IntKind.wrap_u64]; omega, by rw [IntKind.wrap_u64]; omega⟩
          by_cases hfit : m ≤ M.S j - (x - M.A j)
          · have d2 : decide ((m : Int) ≤ u) = true := decide_eq_true (by omega)
            have HY : Hid (Hs M x m j (x - M.A j)) := Lib.hid ⟨hjn, by omega, hin, by omega⟩
            clear s0 s1 s2 t1 t2 u1 u2 hfit hin hlt
            go_wp2
            go_ret
            exact ⟨.inl ⟨j, _, HY.out, rfl⟩, HB2.out⟩
          · have d2 : decide ((m : Int) ≤ u) = false := decide_eq_false (by omega)
            have HNo : Hid (∀ o, ¬ Hs M x m j o) := Lib.hid (fun o ⟨_, e, _, e2⟩ => by omega)
            clear s0 s1 s2 t1 t2 u1 u2 hfit hin hlt
            go_wp2
            refine ⟨⟨j + 1, by omega, by simp, Lib.hid (fun i hi o => ?_), HB2⟩, by simp [intOf]; omega⟩
            rcases Nat.lt_or_ge i j with hi2 | hi2
            · exact HN.out i hi2 o
            · obtain rfl : i = j := by omega
              exact HNo.out o
        · have d1 : decide (t < (M.S j : Int)) = false := decide_eq_false (by omega)
          have HNo : Hid (∀ o, ¬ Hs M x m j o) := Lib.hid (fun o ⟨_, e, e2, _⟩ => by omega)
          clear s0 s1 s2 t1 t2 hin hlt
          go_wp2
          refine ⟨⟨j + 1, by omega, by simp, Lib.hid (fun i hi o => ?_), HB2⟩, by simp [intOf]; omega⟩
          rcases Nat.lt_or_ge i j with hi2 | hi2
          · exact HN.out i hi2 o
          · obtain rfl : i = j := by omega
            exact HNo.out o
    · obtain rfl : j = M.n := by omega
      go_wp2
      go_ret
      exact ⟨.inr ⟨fun k o hk => HN.out k hk.1 o hk, rfl⟩, HB.out⟩
end
end Go.Proofs.Ytjcbhomfggjmhaa.Mm
namespace Go.Proofs.Ytjcbhomfggjmhaa.Mm
open Go.ChangeShapes Go.WideShapes Go.ChangeAt Go.RowKit
set_option linter.unusedVariables false
theorem rd_shift (f : Nat → Nat) : ∀ k, rd f (k + 1) = f 0 + 256 * rd (fun i => f (i + 1)) k
  | 0 => by simp [rd]
  | k + 1 => by
    show rd f (k + 1) + f (k + 1) * 256 ^ (k + 1) = f 0 + 256 * (rd (fun i => f (i + 1)) k + f (k + 1) * 256 ^ k)
    rw [rd_shift f k, Nat.mul_add, ← Nat.add_assoc, Nat.pow_succ, Nat.mul_comm (f (k + 1)), Nat.mul_comm (f (k + 1)), Nat.mul_comm (256 ^ k) 256, Nat.mul_assoc]
theorem or_low (r c : Nat) (hr : r < 256 ^ 7) (hc : c < 256) : bits .or .u64 (IntKind.u64.wrap ((r : Int) * 256)) (c : Int) = ((c + 256 * r : Nat) : Int) := by
  have h7 : (256 : Nat) ^ 7 = 72057594037927936 := by decide
  have e : (r : Int) * 256 = ((r * 256 : Nat) : Int) := by rw [Int.natCast_mul]; rfl
  rw [e, IntKind.wrap_u64, Int.emod_eq_of_lt (by omega) (by omega), u64_or_nat _ _ (by omega) (by omega), show r * 256 = 2 ^ 8 * r by omega, ← Nat.two_pow_add_eq_or_of_lt (show c < 2 ^ 8 by omega)]
  congr 1
  omega
theorem Hs.form' {tm ta : TypeId} {w : World} {FP : Nat → Prop} {p : Nat} {M : Me} {v : Value} {B C : Nat → Nat} (h : MeC tm ta w FP p M v B C) {x m k o : Nat} (hs : Hs M x m k o) : ∃ ab cap, v = .slice (some ⟨ab, 0, none⟩) M.n cap := by
  obtain ⟨a, cap, rfl, ha⟩ := own_form h.ars
  rcases ha with h0 | ⟨ab, rfl⟩
  · have := hs.1
    omega
  · exact ⟨ab, cap, rfl⟩
section
variable {w : World} {FP : Nat → Prop} {p : Nat} {M : Me} {v : Value} {B C : Nat → Nat}
set_option maxRecDepth 100000 in
set_option maxHeartbeats 4000000 in
theorem low_c (h : MeC 70 72 w FP p M v B C) {x k o n : Nat} (hs : Hs M x n k o) (hn : n ≤ 8) :
    Calls Try.prog 73 #[.pointer (some ⟨p, 0, none⟩), .int .i64 k, .int .u64 x, .int .i64 n] w fun e w' => e = .returned (.int .u64 (rd (fun i => M.y k (o + i)) n : Nat)) ∧ ∃ q, w' = w.drewN q := by
  obtain ⟨ab, cap, hv⟩ := Hs.form' h hs
  have H := Lib.hid h
  obtain ⟨f1, f2, f3, f4, f5⟩ := h.area hv k hs.1
  have hcm := h.cv
  have HC : Hid (∀ j, j < n → w.cell? ⟨B k, o + j, none⟩ = some (.int .u8 (M.y k (o + j) : Nat))) := Lib.hid (fun j hj => h.cell hs.1 (by have := hs.2.2.2; omega))
  have HY := Lib.hid h.ok.byt
  obtain ⟨s0, s1, s2, _, _⟩ := h.ok.sz k hs.1
  obtain ⟨hk, hx, ho, hon⟩ := hs
  have hw1 : IntKind.u64.wrap ((x : Int) - (M.A k : Int)) = (o : Int) := by rw [IntKind.wrap_u64]; omega
  have gk : (k : Int) < M.n := by omega
  have hkn : k < M.n := hk
  have HON := Lib.hid hon
  have HSS := Lib.hid s1
  subst hv
  clear h hx s2 f2 f3 f4
  go_enter Try.func73, Try.ntmps73
  go_wp2
  go_loopw [9, 10] (fun s9 s10 wr => ∃ j : Nat, j ≤ n ∧ s10 = .int .i64 ((j : Int) - 1) ∧ s9 = .int .u64 (rd (fun i => M.y k (o + (j + i))) (n - j) : Nat) ∧ Hid (∃ q, wr = w.drewN q)) (fun _ s10 _ => ((intOf s10) + 1).toNat)
  case atStart => exact ⟨n, Nat.le_refl _, by go_num, by simp [rd], Lib.hid ⟨0, rfl⟩⟩
  case round =>
    obtain ⟨j, hj, rfl, rfl, HQ⟩ := hrel
    obtain ⟨q2, rfl⟩ := HQ.out
    cases j with
    | zero =>
      go_wp2
      go_ret
      exact ⟨by simp, _, rfl⟩
    | succ j =>
      have hc := HC.out j (by omega)
      have hy := HY.out k (o + j)
      obtain ⟨c, hcy⟩ : ∃ c, M.y k (o + j) = c := ⟨_, rfl⟩
      rw [hcy] at hc hy
      obtain ⟨r, hr⟩ : ∃ r, rd (fun i => M.y k (o + (j + 1 + i))) (n - (j + 1)) = r := ⟨_, rfl⟩
      have HRS : Hid (rd (fun i => M.y k (o + (j + i))) (n - j) = c + 256 * r) := Lib.hid (by
        rw [show n - j = (n - (j + 1)) + 1 by omega, rd_shift, ← hr, ← hcy]
        simp only [Nat.add_zero]
        congr 3
        funext i
        rw [show j + (i + 1) = j + 1 + i by omega])
      have HR7 : Hid (r < 256 ^ 7) := Lib.hid (by
        rw [← hr]
        exact Nat.lt_of_lt_of_le (rd_lt _ (fun i => HY.out k _) _) (Nat.pow_le_pow_right (by decide) (by omega)))
      rw [hr]
      have hj1 : (((j + 1 : Nat) : Int) - 1) = (j : Int) := by omega
      rw [hj1]
      have hw2 : IntKind.u64.wrap ((o : Int) + (j : Int)) = ((o + j : Nat) : Int) := by have := HON.out; have := HSS.out; rw [IntKind.wrap_u64]; omega
      have hw3 : IntKind.u64.wrap (j : Int) = (j : Int) := by rw [IntKind.wrap_u64]; omega
      have hoj : o + j < M.S k := by have := HON.out; omega
      go_wp2
      go_quiet (fail)
      clear hr hcy
      go_wp2
      refine ⟨⟨j, by omega, rfl, ?_, Lib.hid ⟨_, rfl⟩⟩, by simp [intOf]⟩
      rw [or_low r c HR7.out hy, HRS.out]
theorem in_y (h : MeC 70 72 w FP p M v B C) {x m k o : Nat} (hs : Hs M x m k o) : Calls Try.prog 26 #[.pointer (some ⟨p, 0, none⟩), .int .u64 x, .int .u64 m] w fun e w' => e = .returned (.int .i64 k) ∧ Below w.heap.size w w' := by
  obtain ⟨h1, h2⟩ := hs.lt h.ok
  refine (in_c h x m h1 (by omega)).mono ?_
  rintro e w' ⟨⟨k', o', hs', rfl⟩ | ⟨hno, rfl⟩, hb⟩
  · obtain ⟨e1, e2⟩ := Hs.uniq h.ok hs hs'
    subst e1
    exact ⟨rfl, hb⟩
  · exact absurd hs (hno k o)
theorem in_n (h : MeC 70 72 w FP p M v B C) {x m : Nat} (hx : x < 18446744073709551616) (hm : m < 18446744073709551616) (hno : ∀ k o, ¬ Hs M x m k o) : Calls Try.prog 26 #[.pointer (some ⟨p, 0, none⟩), .int .u64 x, .int .u64 m] w fun e w' => e = .returned (.int .i64 (-1)) ∧ Below w.heap.size w w' := by
  refine (in_c h x m hx hm).mono ?_
  rintro e w' ⟨⟨k', o', hs', rfl⟩ | ⟨_, rfl⟩, hb⟩
  · exact absurd hs' (hno k' o')
  · exact ⟨rfl, hb⟩
end
end Go.Proofs.Ytjcbhomfggjmhaa.Mm
namespace Go.Proofs.Ytjcbhomfggjmhaa.Mm
open Go.ChangeShapes Go.WideShapes Go.ChangeAt Go.RowKit
set_option linter.unusedVariables false
section
variable {w : World} {FP : Nat → Prop} {p : Nat} {M : Me} {v : Value} {B C : Nat → Nat}
set_option maxRecDepth 100000 in
set_option maxHeartbeats 2000000 in
theorem rword_y (h : MeC 70 72 w FP p M v B C) {x k o : Nat} (hs : Hs M x 4 k o) (h4 : x % 4 = 0) (hX : M.X k = true) :
    Calls Try.prog 66 #[.pointer (some ⟨p, 0, none⟩), .int .u64 x] w fun e w' => e = .returned (.tuple #[.int .u32 (rd (fun i => M.y k (o + i)) 4 : Nat), .int .i64 0]) ∧ Below w.heap.size w w' := by
  obtain ⟨ab, cap, hv⟩ := Hs.form' h hs
  have HI := Lib.hid (in_y h hs)
  have H := Lib.hid h
  have HS := Lib.hid hs
  have HA : Hid (∀ w1, Below w.heap.size w w1 → w1.cell? ⟨p, 0, none⟩ = some v ∧ w1.cell? ⟨ab, k * 5 + 3, none⟩ = some (.bool true)) := Lib.hid (fun w1 hb => ⟨(h.past hb).cv, by rw [((h.past hb).area hv k hs.1).2.2.2.1, hX]⟩)
  have gk : (k : Int) < M.n := by have := hs.1; omega
  have hkn : k < M.n := hs.1
  have hlt := rd_lt (fun i => M.y k (o + i)) (fun i => h.ok.byt k _) 4
  have hlt2 : rd (fun i => M.y k (o + i)) 4 < 4294967296 := hlt
  have hw : IntKind.u32.wrap (rd (fun i => M.y k (o + i)) 4 : Int) = (rd (fun i => M.y k (o + i)) 4 : Int) := by rw [IntKind.wrap_u32]; omega
  have hd : (x : Int) % 4 = 0 := by omega
  subst hv
  clear h hs h4 hX hlt hlt2
  go_enter Try.func66, Try.ntmps66
  go_wp2_with (first | (go_at_call 26; refine HI.out.mono ?_; rintro e w1 ⟨rfl, hb⟩; obtain ⟨hcm, hx3⟩ := HA.out w1 hb; have HB := Lib.hid hb; clear hb) | (go_at_call 73; refine (low_c (H.out.past HB.out) HS.out (by omega)).mono ?_; rintro e w2 ⟨rfl, q, rfl⟩))
  refine bodyPost_ret (v := .tuple #[.int .u32 (rd (fun i => M.y k (o + i)) 4 : Nat), .int .i64 0]) (by simp [results, Try.results66, go_sem]) rfl ⟨rfl, below_drewN HB.out _⟩
set_option maxRecDepth 100000 in
set_option maxHeartbeats 2000000 in
theorem rword_x (h : MeC 70 72 w FP p M v B C) {x k o : Nat} (hs : Hs M x 4 k o) (h4 : x % 4 = 0) (hX : M.X k = false) :
    Calls Try.prog 66 #[.pointer (some ⟨p, 0, none⟩), .int .u64 x] w fun e w' => e = .returned (.tuple #[.int .u32 0, .int .i64 8]) ∧ Below w.heap.size w w' := by
  obtain ⟨ab, cap, hv⟩ := Hs.form' h hs
  have HI := Lib.hid (in_y h hs)
  have HA : Hid (∀ w1, Below w.heap.size w w1 → w1.cell? ⟨p, 0, none⟩ = some v ∧ w1.cell? ⟨ab, k * 5 + 3, none⟩ = some (.bool false)) := Lib.hid (fun w1 hb => ⟨(h.past hb).cv, by rw [((h.past hb).area hv k hs.1).2.2.2.1, hX]⟩)
  have gk : (k : Int) < M.n := by have := hs.1; omega
  have hkn : k < M.n := hs.1
  have hd : (x : Int) % 4 = 0 := by omega
  subst hv
  clear h hs h4 hX
  go_enter Try.func66, Try.ntmps66
  go_wp2_with (go_at_call 26; refine HI.out.mono ?_; rintro e w1 ⟨rfl, hb⟩; obtain ⟨hcm, hx3⟩ := HA.out w1 hb; have HB := Lib.hid hb; clear hb)
  refine bodyPost_ret (v := .tuple #[.int .u32 0, .int .i64 8]) (by simp [results, Try.results66, go_sem]) rfl ⟨rfl, HB.out⟩
set_option maxRecDepth 100000 in
set_option maxHeartbeats 2000000 in
theorem rword_m (h : MeC 70 72 w FP p M v B C) {x : Nat} (hx : x < 18446744073709551616) (h4 : ¬ x % 4 = 0) :
    Calls Try.prog 66 #[.pointer (some ⟨p, 0, none⟩), .int .u64 x] w fun e w' => e = .returned (.tuple #[.int .u32 0, .int .i64 8]) ∧ Below w.heap.size w w' := by
  have HI := Lib.hid (in_c h x 4 hx (by omega))
  have hd : ¬ (x : Int) % 4 = 0 := by omega
  clear h h4
  go_enter Try.func66, Try.ntmps66
  go_wp2_with (go_at_call 26; refine HI.out.mono ?_; rintro e w1 ⟨he, hb⟩; have HB := Lib.hid hb; obtain ⟨r, rfl⟩ : ∃ r : Int, e = .returned (.int .i64 r) := (by rcases he with ⟨k, o, _, h⟩ | ⟨_, h⟩ <;> exact ⟨_, h⟩); clear hb he)
  refine bodyPost_ret (v := .tuple #[.int .u32 0, .int .i64 8]) (by simp [results, Try.results66, go_sem]) rfl ⟨rfl, HB.out⟩
set_option maxRecDepth 100000 in
set_option maxHeartbeats 2000000 in
theorem rword_n (h : MeC 70 72 w FP p M v B C) {x : Nat} (hx : x < 18446744073709551616) (hno : ∀ k o, ¬ Hs M x 4 k o) :
    Calls Try.prog 66 #[.pointer (some ⟨p, 0, none⟩), .int .u64 x] w fun e w' => e = .returned (.tuple #[.int .u32 0, .int .i64 8]) ∧ Below w.heap.size w w' := by
  have HI := Lib.hid (in_n h hx (m := 4) (by omega) hno)
  clear h hno
  go_enter Try.func66, Try.ntmps66
  go_wp2_with (go_at_call 26; refine HI.out.mono ?_; rintro e w1 ⟨rfl, hb⟩; have HB := Lib.hid hb; clear hb)
  all_goals refine bodyPost_ret (v := .tuple #[.int .u32 0, .int .i64 8]) (by simp [results, Try.results66, go_sem]) rfl ⟨rfl, HB.out⟩
/-! ### Write -/
set_option maxRecDepth 100000 in
set_option maxHeartbeats 2000000 in
theorem rwrite_x (h : MeC 70 72 w FP p M v B C) {x k o u : Nat} (hs : Hs M x 8 k o) (h8 : x % 8 = 0) (hW : M.W k = false) :
    Calls Try.prog 41 #[.pointer (some ⟨p, 0, none⟩), .int .u64 x, .int .u64 u] w fun e w' => e = .returned (.int .i64 8) ∧ Below w.heap.size w w' := by
  obtain ⟨ab, cap, hv⟩ := Hs.form' h hs
  have HI := Lib.hid (in_y h hs)
  have HA : Hid (∀ w1, Below w.heap.size w w1 → w1.cell? ⟨p, 0, none⟩ = some v ∧ w1.cell? ⟨ab, k * 5 + 2, none⟩ = some (.bool false)) := Lib.hid (fun w1 hb => ⟨(h.past hb).cv, by rw [((h.past hb).area hv k hs.1).2.2.1, hW]⟩)
  have gk : (k : Int) < M.n := by have := hs.1; omega
  have hkn : k < M.n := hs.1
  have hd : (x : Int) % 8 = 0 := by omega
  subst hv
  clear h hs h8 hW
  go_enter Try.func41, Try.ntmps41
  go_wp2_with (go_at_call 26; refine HI.out.mono ?_; rintro e w1 ⟨rfl, hb⟩; obtain ⟨hcm, hx3⟩ := HA.out w1 hb; have HB := Lib.hid hb; clear hb)
  go_ret
  exact ⟨rfl, HB.out⟩
set_option maxRecDepth 100000 in
set_option maxHeartbeats 2000000 in
theorem rwrite_m (h : MeC 70 72 w FP p M v B C) {x u : Nat} (hx : x < 18446744073709551616) (h8 : ¬ x % 8 = 0) :
    Calls Try.prog 41 #[.pointer (some ⟨p, 0, none⟩), .int .u64 x, .int .u64 u] w fun e w' => e = .returned (.int .i64 8) ∧ Below w.heap.size w w' := by
  have HI := Lib.hid (in_c h x 8 hx (by omega))
  have hd : ¬ (x : Int) % 8 = 0 := by omega
  clear h h8
  go_enter Try.func41, Try.ntmps41
  go_wp2_with (go_at_call 26; refine HI.out.mono ?_; rintro e w1 ⟨he, hb⟩; have HB := Lib.hid hb; obtain ⟨r, rfl⟩ : ∃ r : Int, e = .returned (.int .i64 r) := (by rcases he with ⟨k, o, _, h⟩ | ⟨_, h⟩ <;> exact ⟨_, h⟩); clear hb he)
  go_ret
  exact ⟨rfl, HB.out⟩
set_option maxRecDepth 100000 in
set_option maxHeartbeats 2000000 in
theorem rwrite_n (h : MeC 70 72 w FP p M v B C) {x u : Nat} (hx : x < 18446744073709551616) (hno : ∀ k o, ¬ Hs M x 8 k o) :
    Calls Try.prog 41 #[.pointer (some ⟨p, 0, none⟩), .int .u64 x, .int .u64 u] w fun e w' => e = .returned (.int .i64 8) ∧ Below w.heap.size w w' := by
  have HI := Lib.hid (in_n h hx (m := 8) (by omega) hno)
  clear h hno
  go_enter Try.func41, Try.ntmps41
  go_wp2_with (go_at_call 26; refine HI.out.mono ?_; rintro e w1 ⟨rfl, hb⟩; have HB := Lib.hid hb; clear hb)
  all_goals
    go_ret
    exact ⟨rfl, HB.out⟩
end
end Go.Proofs.Ytjcbhomfggjmhaa.Mm
