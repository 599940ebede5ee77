import Derived.Test.YtjcbhomfggjmhaaMb
import Derived.Laws.BitsAllLaws
import Derived.Laws.BitsLemmas
namespace Go.Proofs.Ytjcbhomfggjmhaa.Mm
open Go.ChangeShapes Go.WideShapes Go.ChangeAt Go.RowKit
set_option linter.unusedVariables false
theorem Hs.lt {M : Me} (h : MeOk M) {x m k o : Nat} (a : Hs M x m k o) : x < 18446744073709551616 ∧ m ≤ 16777216 := by
  obtain ⟨a1, a2, a3, a4⟩ := a
  obtain ⟨b1, b2, b3, _⟩ := h.sz k a1
  omega
section
variable {w : World} {FP : Nat → Prop} {p : Nat} {M : Me} {v : Value} {B C : Nat → Nat}
theorem stretch_hit (h : MeC 64 67 w FP p M v B C) {x K k o : Nat} (hs : Hs M x K k o) : Calls Try.prog 25 #[v, .int .u64 x, .int .i64 K] w fun e w' => e = .returned (.tuple #[.slice (some ⟨B k, if K = 0 then 0 else o, none⟩) K K, .bool true]) ∧ ∃ q, w' = w.drewN q := by
  obtain ⟨h1, h2⟩ := hs.lt h.ok
  refine (stretch_m w FP p M v B C h x h1 K (by omega)).mono fun e w' g => ⟨?_, g.2⟩
  rcases g.1 with ⟨k', o', K', hs', he, hr⟩ | ⟨hno, _⟩
  · obtain rfl : K = K' := by omega
    obtain ⟨e1, e2⟩ := Hs.uniq h.ok hs hs'
    subst e1 e2
    exact hr
  · exact absurd hs (hno k o K rfl)
theorem stretch_miss (h : MeC 64 67 w FP p M v B C) {x : Nat} {m : Int} (hx : x < 18446744073709551616) (hm : m ≤ 9223372036854775807) (hno : ∀ k o K : Nat, m = K → ¬ Hs M x K k o) : Calls Try.prog 25 #[v, .int .u64 x, .int .i64 m] w fun e w' => e = .returned (.tuple #[.slice none 0 0, .bool false]) ∧ ∃ q, w' = w.drewN q := by
  refine (stretch_m w FP p M v B C h x hx m hm).mono fun e w' g => ⟨?_, g.2⟩
  rcases g.1 with ⟨k', o', K', hs', he, hr⟩ | ⟨_, hr⟩
  · exact absurd hs' (hno k' o' K' he)
  · exact hr
/-- A number out of its bytes, the lowest first. -/
def rd (f : Nat → Nat) : Nat → Nat
  | 0 => 0
  | j + 1 => rd f j + f j * 256 ^ j
theorem rd_lt (f : Nat → Nat) (hf : ∀ j, f j < 256) : ∀ j, rd f j < 256 ^ j
  | 0 => Nat.lt_of_lt_of_le Nat.zero_lt_one (Nat.le_refl _)
  | j + 1 => by
    have h1 := rd_lt f hf j
    have h2 : f j * 256 ^ j ≤ 255 * 256 ^ j := Nat.mul_le_mul_right _ (by have := hf j; omega)
    show rd f j + f j * 256 ^ j < 256 ^ (j + 1)
    rw [Nat.pow_succ]
    omega
theorem or_step (r c j : Nat) (hr : r < 256 ^ j) (hc : c < 256) (hj : j < 8) : bits .or .u64 (r : Int) (IntKind.u64.wrap ((c : Int) * 2 ^ (8 * j))) = ((r + c * 256 ^ j : Nat) : Int) := by
  have hp : (2 : Nat) ^ (8 * j) = 256 ^ j := by rw [Nat.pow_mul]
  have hle : 256 ^ (j + 1) ≤ 256 ^ 8 := Nat.pow_le_pow_right (by decide) (by omega)
  have h8 : (256 : Nat) ^ 8 = 18446744073709551616 := by decide
  have hs : (256 : Nat) ^ (j + 1) = 256 ^ j * 256 := Nat.pow_succ _ _
  have hm : c * 256 ^ j ≤ 255 * 256 ^ j := Nat.mul_le_mul_right _ (by omega)
  have e : (c : Int) * 2 ^ (8 * j) = ((c * 256 ^ j : Nat) : Int) := by rw [← hp]; push_cast; rfl
  rw [e, IntKind.wrap_u64, Int.emod_eq_of_lt (by omega) (by omega), u64_or_nat r (c * 256 ^ j) (by omega) (by omega)]
  congr 1
  rw [← hp] at hr ⊢
  rw [Nat.or_comm, Nat.mul_comm, ← Nat.two_pow_add_eq_or_of_lt hr]
  omega
/-- What find (132) tells. -/
theorem find_hit (h : MeC 64 67 w FP p M v B C) {x m k o : Nat} (hs : Hs M x m k o) {ab cap : Nat} (hv : v = .slice (some ⟨ab, 0, none⟩) M.n cap) : Calls Try.prog 53 #[v, .int .u64 x] w fun e w' => e = .returned (.pointer (some ⟨ab, k * 5, none⟩)) ∧ ∃ q, w' = w.drewN q := by
  obtain ⟨h1, h2⟩ := hs.lt h.ok
  obtain ⟨a1, a2, a3, a4⟩ := hs
  have har := Lib.hid (h.area hv)
  subst hv
  refine find_y_ ab M.n cap k x M.A M.S M.W M.X B C w h.small a1 h1 (fun j hj hin => ?_) (by unfold inA; omega) har
  have := h.ok.ord j k hj a1
  unfold inA at hin
  omega
theorem find_miss (h : MeC 64 67 w FP p M v B C) {x : Nat} (hx : x < 18446744073709551616) (hno : ∀ k o, ¬ Hs M x 0 k o) : Calls Try.prog 53 #[v, .int .u64 x] w fun e w' => e = .returned (.pointer none) ∧ ∃ q, w' = w.drewN q := by
  obtain ⟨a, cap, rfl, ha⟩ := own_form h.ars
  rcases ha with h0 | ⟨ab, rfl⟩
  · rw [h0]
    exact find_0 a cap x w
  · refine find_n_ ab M.n cap x M.A M.S M.W M.X B C w h.small hx (fun j hj hin => hno j (x - M.A j) ?_) (Lib.hid (h.area rfl))
    unfold inA at hin
    exact ⟨hj, by omega, by omega, by omega⟩
theorem Hs.form (h : MeC 64 67 w FP p M v B C) {x m k o : Nat} (hs : Hs M x m k o) : ∃ ab cap, v = .slice (some ⟨ab, 0, none⟩) M.n cap := by
  obtain ⟨a, cap, rfl, ha⟩ := own_form h.ars
  rcases ha with h0 | ⟨ab, rfl⟩
  · have := hs.1
    omega
  · exact ⟨ab, cap, rfl⟩
theorem word_of (c0 c1 c2 c3 : Nat) (b0 : c0 < 256) (b1 : c1 < 256) (b2 : c2 < 256) (b3 : c3 < 256) :
    (bits BinOp.or IntKind.u32 (bits BinOp.or IntKind.u32 (bits BinOp.or IntKind.u32 (c0 : Int) ((c1 : Int) * 256)) ((c2 : Int) * 65536)) ((c3 : Int) * 16777216)) = ((c0 + c1 * 256 + c2 * 65536 + c3 * 16777216 : Nat) : Int) := by
  have e1 : bits BinOp.or IntKind.u32 (c0 : Int) ((c1 : Int) * 256) = ((c0 + c1 * 256 : Nat) : Int) := by
    rw [show (c1 : Int) * 256 = ((c1 * 256 : Nat) : Int) by rw [Int.natCast_mul]; rfl, u32_or_nat _ _ (by omega) (by omega), Nat.or_comm, show c1 * 256 = 2 ^ 8 * c1 by omega, ← Nat.two_pow_add_eq_or_of_lt (show c0 < 2 ^ 8 by omega)]
    congr 1
    omega
  have e2 : bits BinOp.or IntKind.u32 ((c0 + c1 * 256 : Nat) : Int) ((c2 : Int) * 65536) = ((c0 + c1 * 256 + c2 * 65536 : Nat) : Int) := by
    rw [show (c2 : Int) * 65536 = ((c2 * 65536 : Nat) : Int) by rw [Int.natCast_mul]; rfl, u32_or_nat _ _ (by omega) (by omega), Nat.or_comm, show c2 * 65536 = 2 ^ 16 * c2 by omega, ← Nat.two_pow_add_eq_or_of_lt (show c0 + c1 * 256 < 2 ^ 16 by omega)]
    congr 1
    omega
  rw [e1, e2, show (c3 : Int) * 16777216 = ((c3 * 16777216 : Nat) : Int) by rw [Int.natCast_mul]; rfl, u32_or_nat _ _ (by omega) (by omega), Nat.or_comm, show c3 * 16777216 = 2 ^ 24 * c3 by omega, ← Nat.two_pow_add_eq_or_of_lt (show c0 + c1 * 256 + c2 * 65536 < 2 ^ 24 by omega)]
  congr 1
  omega
set_option maxRecDepth 100000 in
set_option maxHeartbeats 4000000 in
theorem word_y (h : MeC 64 67 w FP p M v B C) {x k o : Nat} (hs : Hs M x 4 k o) (h4 : x % 4 = 0) (hX : M.X k = true) :
    Calls Try.prog 68 #[.pointer (some ⟨p, 0, none⟩), .int .u64 x] w fun e w' => e = .returned (.tuple #[.int .u32 (rd (fun i => M.y k (o + i)) 4 : Nat), .int .i64 0]) ∧ ∃ q, w' = w.drewN q := by
  obtain ⟨ab, cap, hv⟩ := Hs.form h hs
  have HFI := Lib.hid (find_hit h hs hv)
  have HST : Hid (∀ q, Calls Try.prog 25 #[v, .int .u64 x, .int .i64 4] (w.drewN q) fun e w' => e = .returned (.tuple #[.slice (some ⟨B k, o, none⟩) 4 4, .bool true]) ∧ ∃ q', w' = (w.drewN q).drewN q') := Lib.hid (fun q => stretch_hit (h.past (below_drewN (Below.refl _ _) q)) hs)
  have hcm := h.cv
  obtain ⟨f1, f2, f3, f4, f5⟩ := h.area hv k hs.1
  rw [hX] at f4
  have e0 := h.cell hs.1 (show o < M.S k by have := hs.2.2.2; omega)
  have e1 := h.cell hs.1 (show o + 1 < M.S k by have := hs.2.2.2; omega)
  have e2 := h.cell hs.1 (show o + 2 < M.S k by have := hs.2.2.2; omega)
  have e3 := h.cell hs.1 (show o + 3 < M.S k by have := hs.2.2.2; omega)
  have b0 := h.ok.byt k o
  have b1 := h.ok.byt k (o + 1)
  have b2 := h.ok.byt k (o + 2)
  have b3 := h.ok.byt k (o + 3)
  have hd : (x : Int) % 4 = 0 := by omega
  have hrd : rd (fun i => M.y k (o + i)) 4 = M.y k o + M.y k (o + 1) * 256 + M.y k (o + 2) * 65536 + M.y k (o + 3) * 16777216 := by
    simp [rd]
  obtain ⟨c0, hc0⟩ : ∃ c, M.y k o = c := ⟨_, rfl⟩
  obtain ⟨c1, hc1⟩ : ∃ c, M.y k (o + 1) = c := ⟨_, rfl⟩
  obtain ⟨c2, hc2⟩ : ∃ c, M.y k (o + 2) = c := ⟨_, rfl⟩
  obtain ⟨c3, hc3⟩ : ∃ c, M.y k (o + 3) = c := ⟨_, rfl⟩
  rw [hc0] at e0 b0
  rw [hc1] at e1 b1
  rw [hc2] at e2 b2
  rw [hc3] at e3 b3
  rw [hrd, hc0, hc1, hc2, hc3]
  subst hv
  clear h hs h4 hX f1 f2 f3 f5 hrd hc0 hc1 hc2 hc3
  go_enter Try.func68, Try.ntmps68
  go_wp2_with (first | (go_at_call 53; refine HFI.out.mono ?_; rintro e w' ⟨rfl, q, rfl⟩) | (go_at_call 25; refine (HST.out _).mono ?_; rintro e w' ⟨rfl, q2, rfl⟩))
  go_quiet (fail)
  go_wp2
  refine bodyPost_ret (v := .tuple #[.int .u32 (bits BinOp.or IntKind.u32 (bits BinOp.or IntKind.u32 (bits BinOp.or IntKind.u32 (c0 : Int) ((c1 : Int) * 256)) ((c2 : Int) * 65536)) ((c3 : Int) * 16777216)), .int .i64 0]) (by simp [results, Try.results68, go_sem]) rfl ⟨by rw [word_of _ _ _ _ b0 b1 b2 b3], _, World.drewN_drewN _ _ _⟩
set_option maxRecDepth 100000 in
set_option maxHeartbeats 4000000 in
theorem word_m (h : MeC 64 67 w FP p M v B C) {x k o : Nat} (hs : Hs M x 0 k o) (h4 : ¬ x % 4 = 0 ∨ M.X k = false) :
    Calls Try.prog 68 #[.pointer (some ⟨p, 0, none⟩), .int .u64 x] w fun e w' => e = .returned (.tuple #[.int .u32 0, .int .i64 8]) ∧ ∃ q, w' = w.drewN q := by
  obtain ⟨ab, cap, hv⟩ := Hs.form h hs
  have HFI := Lib.hid (find_hit h hs hv)
  have hcm := h.cv
  obtain ⟨f1, f2, f3, f4, f5⟩ := h.area hv k hs.1
  subst hv
  by_cases hd4 : x % 4 = 0
  · have hX : M.X k = false := by
      rcases h4 with h4 | h4
      · exact absurd hd4 h4
      · exact h4
    rw [hX] at f4
    have hd : (x : Int) % 4 = 0 := by omega
    clear h hs h4 hX f1 f2 f3 f5 hd4
    go_enter Try.func68, Try.ntmps68
    go_wp2_with (go_at_call 53; refine HFI.out.mono ?_; rintro e w' ⟨rfl, q, rfl⟩)
    refine bodyPost_ret (v := .tuple #[.int .u32 0, .int .i64 8]) (by simp [results, Try.results68, go_sem]) rfl ⟨rfl, _, rfl⟩
  · have hd : ¬ (x : Int) % 4 = 0 := by omega
    clear h hs h4 f1 f2 f3 f4 f5 hd4
    go_enter Try.func68, Try.ntmps68
    go_wp2_with (go_at_call 53; refine HFI.out.mono ?_; rintro e w' ⟨rfl, q, rfl⟩)
    refine bodyPost_ret (v := .tuple #[.int .u32 0, .int .i64 8]) (by simp [results, Try.results68, go_sem]) rfl ⟨rfl, _, rfl⟩
set_option maxRecDepth 100000 in
set_option maxHeartbeats 4000000 in
theorem word_n (h : MeC 64 67 w FP p M v B C) {x : Nat} (hx : x < 18446744073709551616) (hno : ∀ k o, ¬ Hs M x 0 k o) :
    Calls Try.prog 68 #[.pointer (some ⟨p, 0, none⟩), .int .u64 x] w fun e w' => e = .returned (.tuple #[.int .u32 0, .int .i64 8]) ∧ ∃ q, w' = w.drewN q := by
  have HFI := Lib.hid (find_miss h hx hno)
  have hcm := h.cv
  obtain ⟨a, cap, rfl, _⟩ := own_form h.ars
  clear h
  go_enter Try.func68, Try.ntmps68
  go_wp2_with (go_at_call 53; refine HFI.out.mono ?_; rintro e w' ⟨rfl, q, rfl⟩)
  refine bodyPost_ret (v := .tuple #[.int .u32 0, .int .i64 8]) (by simp [results, Try.results68, go_sem]) rfl ⟨rfl, _, rfl⟩
end
end Go.Proofs.Ytjcbhomfggjmhaa.Mm
