import Derived.Test.YtnbpgoacooddjaaEPt
import Derived.WalkSmall
import Derived.WalkLawsBesides
import Derived.WalkSpells
import Derived.Below
namespace Go.Proofs.Ytnbpgoacooddjaa.Fr
end Go.Proofs.Ytnbpgoacooddjaa.Fr
namespace Go.Proofs.Ytnbpgoacooddjaa.En
open Go.Proofs.Ytnbpgoacooddjaa.Fr
open Go.ChangeShapes Go.WideShapes Go.ChangeAt Go.RowKit
set_option linter.unusedVariables false
theorem putS_lt (x lo n v : Int) (hx : 0 ≤ x) (hx' : x < 4294967296) : 0 ≤ putS x lo n v ∧ putS x lo n v < 4294967296 := by
  unfold putS
  split
  · have := putN_lt x.toNat lo.toNat n.toNat v.toNat (by omega) (by omega)
    omega
  · exact ⟨hx, hx'⟩
theorem below_dr {a w : World} (h : Below a.heap.size a w) (n : Nat) : Below a.heap.size a (w.drewN n) := ⟨h.os, h.tape, h.output, h.size, h.block⟩
set_option maxRecDepth 100000 in
set_option maxHeartbeats 2000000 in
theorem lay_moved (op d n m a c i x : Int) (w : World) (hx : 0 ≤ x) (hx' : x < 4294967296) (h0 : 0 ≤ m) (h1 : m ≤ 3) : Calls Try.prog 218 #[.agg #[.int .i64 op, .int .i64 d, .int .i64 n, .int .i64 m, .int .i64 a, .int .i64 c, .int .i64 i], .int .u32 x] w fun e w' => e = .returned (.int .u32 (putS x 21 2 m)) ∧ Below w.heap.size w w' := by
  go_enter Try.func218, Try.ntmps218
  go_wp2_with (go_at_call 254; refine (put_c _ _ _ _ _ hx hx' (by omega) (by omega)).mono ?_; rintro e w' ⟨rfl, q, rfl⟩)
  go_ret
  exact ⟨rfl, below_dr ((Below.refl _ _).alloc (Nat.le_refl _) _) q⟩
set_option maxRecDepth 100000 in
set_option maxHeartbeats 2000000 in
theorem lay_number (op d n m a c i x : Int) (w : World) (hx : 0 ≤ x) (hx' : x < 4294967296) (h0 : 0 ≤ i) (h1 : i ≤ 65535) : Calls Try.prog 219 #[.agg #[.int .i64 op, .int .i64 d, .int .i64 n, .int .i64 m, .int .i64 a, .int .i64 c, .int .i64 i], .int .u32 x] w fun e w' => e = .returned (.int .u32 (putS x 5 16 i)) ∧ Below w.heap.size w w' := by
  go_enter Try.func219, Try.ntmps219
  go_wp2_with (go_at_call 254; refine (put_c _ _ _ _ _ hx hx' (by omega) (by omega)).mono ?_; rintro e w' ⟨rfl, q, rfl⟩)
  go_ret
  exact ⟨rfl, below_dr ((Below.refl _ _).alloc (Nat.le_refl _) _) q⟩
set_option maxRecDepth 100000 in
set_option maxHeartbeats 2000000 in
theorem lay_d (op d n m a c i x : Int) (w : World) (hx : 0 ≤ x) (hx' : x < 4294967296) (h0 : 0 ≤ d) (h1 : d ≤ 31) : Calls Try.prog 220 #[.agg #[.int .i64 op, .int .i64 d, .int .i64 n, .int .i64 m, .int .i64 a, .int .i64 c, .int .i64 i], .int .u32 x] w fun e w' => e = .returned (.int .u32 (putS x 0 5 d)) ∧ Below w.heap.size w w' := by
  go_enter Try.func220, Try.ntmps220
  go_wp2_with (go_at_call 254; refine (put_c _ _ _ _ _ hx hx' (by omega) (by omega)).mono ?_; rintro e w' ⟨rfl, q, rfl⟩)
  go_ret
  exact ⟨rfl, below_dr ((Below.refl _ _).alloc (Nat.le_refl _) _) q⟩
set_option maxRecDepth 100000 in
set_option maxHeartbeats 2000000 in
theorem lay_small (op d n m a c i x : Int) (w : World) (hx : 0 ≤ x) (hx' : x < 4294967296) (h0 : 0 ≤ i) (h1 : i ≤ 4095) : Calls Try.prog 221 #[.agg #[.int .i64 op, .int .i64 d, .int .i64 n, .int .i64 m, .int .i64 a, .int .i64 c, .int .i64 i], .int .u32 x] w fun e w' => e = .returned (.int .u32 (putS x 10 12 i)) ∧ Below w.heap.size w w' := by
  go_enter Try.func221, Try.ntmps221
  go_wp2_with (go_at_call 254; refine (put_c _ _ _ _ _ hx hx' (by omega) (by omega)).mono ?_; rintro e w' ⟨rfl, q, rfl⟩)
  go_ret
  exact ⟨rfl, below_dr ((Below.refl _ _).alloc (Nat.le_refl _) _) q⟩
set_option maxRecDepth 100000 in
set_option maxHeartbeats 2000000 in
theorem lay_n (op d n m a c i x : Int) (w : World) (hx : 0 ≤ x) (hx' : x < 4294967296) (h0 : 0 ≤ n) (h1 : n ≤ 31) : Calls Try.prog 222 #[.agg #[.int .i64 op, .int .i64 d, .int .i64 n, .int .i64 m, .int .i64 a, .int .i64 c, .int .i64 i], .int .u32 x] w fun e w' => e = .returned (.int .u32 (putS x 5 5 n)) ∧ Below w.heap.size w w' := by
  go_enter Try.func222, Try.ntmps222
  go_wp2_with (go_at_call 254; refine (put_c _ _ _ _ _ hx hx' (by omega) (by omega)).mono ?_; rintro e w' ⟨rfl, q, rfl⟩)
  go_ret
  exact ⟨rfl, below_dr ((Below.refl _ _).alloc (Nat.le_refl _) _) q⟩
set_option maxRecDepth 100000 in
set_option maxHeartbeats 2000000 in
theorem lay_m (op d n m a c i x : Int) (w : World) (hx : 0 ≤ x) (hx' : x < 4294967296) (h0 : 0 ≤ m) (h1 : m ≤ 31) : Calls Try.prog 224 #[.agg #[.int .i64 op, .int .i64 d, .int .i64 n, .int .i64 m, .int .i64 a, .int .i64 c, .int .i64 i], .int .u32 x] w fun e w' => e = .returned (.int .u32 (putS x 16 5 m)) ∧ Below w.heap.size w w' := by
  go_enter Try.func224, Try.ntmps224
  go_wp2_with (go_at_call 254; refine (put_c _ _ _ _ _ hx hx' (by omega) (by omega)).mono ?_; rintro e w' ⟨rfl, q, rfl⟩)
  go_ret
  exact ⟨rfl, below_dr ((Below.refl _ _).alloc (Nat.le_refl _) _) q⟩
set_option maxRecDepth 100000 in
set_option maxHeartbeats 2000000 in
theorem lay_a (op d n m a c i x : Int) (w : World) (hx : 0 ≤ x) (hx' : x < 4294967296) (h0 : 0 ≤ a) (h1 : a ≤ 31) : Calls Try.prog 225 #[.agg #[.int .i64 op, .int .i64 d, .int .i64 n, .int .i64 m, .int .i64 a, .int .i64 c, .int .i64 i], .int .u32 x] w fun e w' => e = .returned (.int .u32 (putS x 10 5 a)) ∧ Below w.heap.size w w' := by
  go_enter Try.func225, Try.ntmps225
  go_wp2_with (go_at_call 254; refine (put_c _ _ _ _ _ hx hx' (by omega) (by omega)).mono ?_; rintro e w' ⟨rfl, q, rfl⟩)
  go_ret
  exact ⟨rfl, below_dr ((Below.refl _ _).alloc (Nat.le_refl _) _) q⟩
set_option maxRecDepth 100000 in
set_option maxHeartbeats 2000000 in
theorem lay_condAbove (op d n m a c i x : Int) (w : World) (hx : 0 ≤ x) (hx' : x < 4294967296) (h0 : 0 ≤ c) (h1 : c ≤ 15) : Calls Try.prog 226 #[.agg #[.int .i64 op, .int .i64 d, .int .i64 n, .int .i64 m, .int .i64 a, .int .i64 c, .int .i64 i], .int .u32 x] w fun e w' => e = .returned (.int .u32 (putS x 12 4 c)) ∧ Below w.heap.size w w' := by
  go_enter Try.func226, Try.ntmps226
  go_wp2_with (go_at_call 254; refine (put_c _ _ _ _ _ hx hx' (by omega) (by omega)).mono ?_; rintro e w' ⟨rfl, q, rfl⟩)
  go_ret
  exact ⟨rfl, below_dr ((Below.refl _ _).alloc (Nat.le_refl _) _) q⟩
set_option maxRecDepth 100000 in
set_option maxHeartbeats 2000000 in
theorem lay_cond (op d n m a c i x : Int) (w : World) (hx : 0 ≤ x) (hx' : x < 4294967296) (h0 : 0 ≤ c) (h1 : c ≤ 15) : Calls Try.prog 229 #[.agg #[.int .i64 op, .int .i64 d, .int .i64 n, .int .i64 m, .int .i64 a, .int .i64 c, .int .i64 i], .int .u32 x] w fun e w' => e = .returned (.int .u32 (putS x 0 4 c)) ∧ Below w.heap.size w w' := by
  go_enter Try.func229, Try.ntmps229
  go_wp2_with (go_at_call 254; refine (put_c _ _ _ _ _ hx hx' (by omega) (by omega)).mono ?_; rintro e w' ⟨rfl, q, rfl⟩)
  go_ret
  exact ⟨rfl, below_dr ((Below.refl _ _).alloc (Nat.le_refl _) _) q⟩
set_option maxRecDepth 100000 in
set_option maxHeartbeats 2000000 in
theorem lay_status (op d n m a c i x : Int) (w : World) (hx : 0 ≤ x) (hx' : x < 4294967296) (h0 : 0 ≤ d) (h1 : d ≤ 31) : Calls Try.prog 230 #[.agg #[.int .i64 op, .int .i64 d, .int .i64 n, .int .i64 m, .int .i64 a, .int .i64 c, .int .i64 i], .int .u32 x] w fun e w' => e = .returned (.int .u32 (putS x 16 5 d)) ∧ Below w.heap.size w w' := by
  go_enter Try.func230, Try.ntmps230
  go_wp2_with (go_at_call 254; refine (put_c _ _ _ _ _ hx hx' (by omega) (by omega)).mono ?_; rintro e w' ⟨rfl, q, rfl⟩)
  go_ret
  exact ⟨rfl, below_dr ((Below.refl _ _).alloc (Nat.le_refl _) _) q⟩
set_option maxRecDepth 100000 in
set_option maxHeartbeats 2000000 in
theorem lay_stored (op d n m a c i x : Int) (w : World) (hx : 0 ≤ x) (hx' : x < 4294967296) (h0 : 0 ≤ m) (h1 : m ≤ 31) : Calls Try.prog 231 #[.agg #[.int .i64 op, .int .i64 d, .int .i64 n, .int .i64 m, .int .i64 a, .int .i64 c, .int .i64 i], .int .u32 x] w fun e w' => e = .returned (.int .u32 (putS x 0 5 m)) ∧ Below w.heap.size w w' := by
  go_enter Try.func231, Try.ntmps231
  go_wp2_with (go_at_call 254; refine (put_c _ _ _ _ _ hx hx' (by omega) (by omega)).mono ?_; rintro e w' ⟨rfl, q, rfl⟩)
  go_ret
  exact ⟨rfl, below_dr ((Below.refl _ _).alloc (Nat.le_refl _) _) q⟩
set_option maxRecDepth 100000 in
set_option maxHeartbeats 2000000 in
theorem lay_line (op d n m a c i x : Int) (w : World) (hx : 0 ≤ x) (hx' : x < 4294967296) (h0 : 0 ≤ n) (h1 : n ≤ 31) : Calls Try.prog 232 #[.agg #[.int .i64 op, .int .i64 d, .int .i64 n, .int .i64 m, .int .i64 a, .int .i64 c, .int .i64 i], .int .u32 x] w fun e w' => e = .returned (.int .u32 (putS x 0 5 n)) ∧ Below w.heap.size w w' := by
  go_enter Try.func232, Try.ntmps232
  go_wp2_with (go_at_call 254; refine (put_c _ _ _ _ _ hx hx' (by omega) (by omega)).mono ?_; rintro e w' ⟨rfl, q, rfl⟩)
  go_ret
  exact ⟨rfl, below_dr ((Below.refl _ _).alloc (Nat.le_refl _) _) q⟩
set_option maxRecDepth 100000 in
set_option maxHeartbeats 2000000 in
theorem lay_whole (op d n m a c i x : Int) (w : World) (hx : 0 ≤ x) (hx' : x < 4294967296) (h0 : 0 ≤ i) (h1 : i ≤ 65535) : Calls Try.prog 233 #[.agg #[.int .i64 op, .int .i64 d, .int .i64 n, .int .i64 m, .int .i64 a, .int .i64 c, .int .i64 i], .int .u32 x] w fun e w' => e = .returned (.int .u32 (putS x 0 16 i)) ∧ Below w.heap.size w w' := by
  go_enter Try.func233, Try.ntmps233
  go_wp2_with (go_at_call 254; refine (put_c _ _ _ _ _ hx hx' (by omega) (by omega)).mono ?_; rintro e w' ⟨rfl, q, rfl⟩)
  go_ret
  exact ⟨rfl, below_dr ((Below.refl _ _).alloc (Nat.le_refl _) _) q⟩
set_option maxRecDepth 100000 in
set_option maxHeartbeats 2000000 in
theorem lay_eights (op d n m a c i x : Int) (w : World) (hx : 0 ≤ x) (hx' : x < 4294967296) (h0 : 0 ≤ i) (h1 : i ≤ 32760) : Calls Try.prog 223 #[.agg #[.int .i64 op, .int .i64 d, .int .i64 n, .int .i64 m, .int .i64 a, .int .i64 c, .int .i64 i], .int .u32 x] w fun e w' => e = .returned (.int .u32 (putS x 10 12 (i / 8))) ∧ Below w.heap.size w w' := by
  go_enter Try.func223, Try.ntmps223
  go_wp2_with (go_at_call 254; refine (put_c _ _ _ _ _ hx hx' (by omega) (by omega)).mono ?_; rintro e w' ⟨rfl, q, rfl⟩)
  go_ret
  exact ⟨rfl, below_dr ((Below.refl _ _).alloc (Nat.le_refl _) _) q⟩
set_option maxRecDepth 100000 in
set_option maxHeartbeats 2000000 in
theorem lay_far (op d n m a c i x j : Int) (w : World) (hx : 0 ≤ x) (hx' : x < 4294967296) (hj : i = 4 * j) (h0 : -33554432 ≤ j) (h1 : j < 33554432) : Calls Try.prog 227 #[.agg #[.int .i64 op, .int .i64 d, .int .i64 n, .int .i64 m, .int .i64 a, .int .i64 c, .int .i64 i], .int .u32 x] w fun e w' => e = .returned (.int .u32 (putS x 0 26 (j % 4294967296))) ∧ Below w.heap.size w w' := by
  have hq : i.tdiv 4 = j := by rw [hj]; exact Int.mul_tdiv_cancel_left j (by decide)
  obtain ⟨v, hv, hv0, hv1, HV⟩ : ∃ v : Int, IntKind.u32.wrap j = v ∧ 0 ≤ v ∧ v < 4294967296 ∧ Hid (j % 4294967296 = v) := ⟨_, rfl, by rw [IntKind.wrap_u32]; omega, by rw [IntKind.wrap_u32]; omega, Lib.hid (IntKind.wrap_u32 j).symm⟩
  clear hj
  go_enter Try.func227, Try.ntmps227
  go_wp2_with (go_at_call 254; refine (put_c _ _ _ _ _ hx hx' (by omega) (by omega)).mono ?_; rintro e w' ⟨rfl, q, rfl⟩)
  go_ret
  exact ⟨ret_int (by rw [HV.out]), below_dr ((Below.refl _ _).alloc (Nat.le_refl _) _) q⟩
set_option maxRecDepth 100000 in
set_option maxHeartbeats 2000000 in
theorem lay_near (op d n m a c i x j : Int) (w : World) (hx : 0 ≤ x) (hx' : x < 4294967296) (hj : i = 4 * j) (h0 : -262144 ≤ j) (h1 : j < 262144) : Calls Try.prog 228 #[.agg #[.int .i64 op, .int .i64 d, .int .i64 n, .int .i64 m, .int .i64 a, .int .i64 c, .int .i64 i], .int .u32 x] w fun e w' => e = .returned (.int .u32 (putS x 5 19 (j % 4294967296))) ∧ Below w.heap.size w w' := by
  have hq : i.tdiv 4 = j := by rw [hj]; exact Int.mul_tdiv_cancel_left j (by decide)
  obtain ⟨v, hv, hv0, hv1, HV⟩ : ∃ v : Int, IntKind.u32.wrap j = v ∧ 0 ≤ v ∧ v < 4294967296 ∧ Hid (j % 4294967296 = v) := ⟨_, rfl, by rw [IntKind.wrap_u32]; omega, by rw [IntKind.wrap_u32]; omega, Lib.hid (IntKind.wrap_u32 j).symm⟩
  clear hj
  go_enter Try.func228, Try.ntmps228
  go_wp2_with (go_at_call 254; refine (put_c _ _ _ _ _ hx hx' (by omega) (by omega)).mono ?_; rintro e w' ⟨rfl, q, rfl⟩)
  go_ret
  exact ⟨ret_int (by rw [HV.out]), below_dr ((Below.refl _ _).alloc (Nat.le_refl _) _) q⟩
def barS (x i : Int) : Int := if i = 1 then putS x 8 4 9 else if i = 2 then putS x 8 4 10 else x
set_option maxRecDepth 100000 in
set_option maxHeartbeats 2000000 in
theorem lay_barrier (op d n m a c i x : Int) (w : World) (hx : 0 ≤ x) (hx' : x < 4294967296) (h0 : 0 ≤ i) (h1 : i ≤ 2) : Calls Try.prog 234 #[.agg #[.int .i64 op, .int .i64 d, .int .i64 n, .int .i64 m, .int .i64 a, .int .i64 c, .int .i64 i], .int .u32 x] w fun e w' => e = .returned (.int .u32 (barS x i)) ∧ Below w.heap.size w w' := by
  have : i = 0 ∨ i = 1 ∨ i = 2 := by omega
  rcases this with rfl | rfl | rfl
  · go_enter Try.func234, Try.ntmps234
    go_wp2
    go_ret
    exact ⟨rfl, (Below.refl _ _).alloc (Nat.le_refl _) _⟩
  · go_enter Try.func234, Try.ntmps234
    go_wp2_with (go_at_call 254; refine (put_c _ _ _ _ _ hx hx' (by omega) (by omega)).mono ?_; rintro e w' ⟨rfl, q, rfl⟩)
    go_ret
    exact ⟨rfl, below_dr ((Below.refl _ _).alloc (Nat.le_refl _) _) q⟩
  · go_enter Try.func234, Try.ntmps234
    go_wp2_with (go_at_call 254; refine (put_c _ _ _ _ _ hx hx' (by omega) (by omega)).mono ?_; rintro e w' ⟨rfl, q, rfl⟩)
    go_ret
    exact ⟨rfl, below_dr ((Below.refl _ _).alloc (Nat.le_refl _) _) q⟩
end Go.Proofs.Ytnbpgoacooddjaa.En
