import Derived.Test.YtnbpgoacooddjaaMp
namespace Go.Proofs.Ytnbpgoacooddjaa.Mm
open Go.ChangeShapes Go.WideShapes Go.ChangeAt Go.RowKit
set_option linter.unusedVariables false
section
variable {w : World} {FP : Nat → Prop} {p : Nat} {M : Me} {v : Value} {B C : Nat → Nat}
set_option maxRecDepth 100000 in
set_option maxHeartbeats 2000000 in
theorem rword_y (h : MeC 213 215 w FP p M v B C) {x k o : Nat} (hs : Hs M x 4 k o) (h4 : x % 4 = 0) (hX : M.X k = true) :
    Calls Try.prog 144 #[.pointer (some ⟨p, 0, none⟩), .int .u64 x] w fun e w' => e = .returned (.tuple #[.int .u32 (rd (fun i => M.y k (o + i)) 4 : Nat), .int .i64 0]) ∧ Below w.heap.size w w' := by
  obtain ⟨ab, cap, hv⟩ := Hs.form' h hs
  have HI := Lib.hid (in_y h hs)
  have H := Lib.hid h
  have HS := Lib.hid hs
  have HA : Hid (∀ w1, Below w.heap.size w w1 → w1.cell? ⟨p, 0, none⟩ = some v ∧ w1.cell? ⟨ab, k * 5 + 3, none⟩ = some (.bool true)) := Lib.hid (fun w1 hb => ⟨(h.past hb).cv, by rw [((h.past hb).area hv k hs.1).2.2.2.1, hX]⟩)
  have gk : (k : Int) < M.n := by have := hs.1; omega
  have hkn : k < M.n := hs.1
  have hlt := rd_lt (fun i => M.y k (o + i)) (fun i => h.ok.byt k _) 4
  have hlt2 : rd (fun i => M.y k (o + i)) 4 < 4294967296 := hlt
  have hw : IntKind.u32.wrap (rd (fun i => M.y k (o + i)) 4 : Int) = (rd (fun i => M.y k (o + i)) 4 : Int) := by rw [IntKind.wrap_u32]; omega
  have hd : (x : Int) % 4 = 0 := by omega
  subst hv
  clear h hs h4 hX hlt hlt2
  go_enter Try.func144, Try.ntmps144
  go_wp2_with (first | (go_at_call 140; refine HI.out.mono ?_; rintro e w1 ⟨rfl, hb⟩; obtain ⟨hcm, hx3⟩ := HA.out w1 hb; have HB := Lib.hid hb; clear hb) | (go_at_call 185; refine (low_c (H.out.past HB.out) HS.out (by omega)).mono ?_; rintro e w2 ⟨rfl, q, rfl⟩))
  refine bodyPost_ret (v := .tuple #[.int .u32 (rd (fun i => M.y k (o + i)) 4 : Nat), .int .i64 0]) (by simp [results, Try.results144, go_sem]) rfl ⟨rfl, below_drewN HB.out _⟩
set_option maxRecDepth 100000 in
set_option maxHeartbeats 2000000 in
theorem rword_x (h : MeC 213 215 w FP p M v B C) {x k o : Nat} (hs : Hs M x 4 k o) (h4 : x % 4 = 0) (hX : M.X k = false) :
    Calls Try.prog 144 #[.pointer (some ⟨p, 0, none⟩), .int .u64 x] w fun e w' => e = .returned (.tuple #[.int .u32 0, .int .i64 8]) ∧ Below w.heap.size w w' := by
  obtain ⟨ab, cap, hv⟩ := Hs.form' h hs
  have HI := Lib.hid (in_y h hs)
  have HA : Hid (∀ w1, Below w.heap.size w w1 → w1.cell? ⟨p, 0, none⟩ = some v ∧ w1.cell? ⟨ab, k * 5 + 3, none⟩ = some (.bool false)) := Lib.hid (fun w1 hb => ⟨(h.past hb).cv, by rw [((h.past hb).area hv k hs.1).2.2.2.1, hX]⟩)
  have gk : (k : Int) < M.n := by have := hs.1; omega
  have hkn : k < M.n := hs.1
  have hd : (x : Int) % 4 = 0 := by omega
  subst hv
  clear h hs h4 hX
  go_enter Try.func144, Try.ntmps144
  go_wp2_with (go_at_call 140; refine HI.out.mono ?_; rintro e w1 ⟨rfl, hb⟩; obtain ⟨hcm, hx3⟩ := HA.out w1 hb; have HB := Lib.hid hb; clear hb)
  refine bodyPost_ret (v := .tuple #[.int .u32 0, .int .i64 8]) (by simp [results, Try.results144, go_sem]) rfl ⟨rfl, HB.out⟩
set_option maxRecDepth 100000 in
set_option maxHeartbeats 2000000 in
theorem rword_m (h : MeC 213 215 w FP p M v B C) {x : Nat} (hx : x < 18446744073709551616) (h4 : ¬ x % 4 = 0) :
    Calls Try.prog 144 #[.pointer (some ⟨p, 0, none⟩), .int .u64 x] w fun e w' => e = .returned (.tuple #[.int .u32 0, .int .i64 8]) ∧ Below w.heap.size w w' := by
  have HI := Lib.hid (in_c h x 4 hx (by omega))
  have hd : ¬ (x : Int) % 4 = 0 := by omega
  clear h h4
  go_enter Try.func144, Try.ntmps144
  go_wp2_with (go_at_call 140; refine HI.out.mono ?_; rintro e w1 ⟨he, hb⟩; have HB := Lib.hid hb; obtain ⟨r, rfl⟩ : ∃ r : Int, e = .returned (.int .i64 r) := (by rcases he with ⟨k, o, _, h⟩ | ⟨_, h⟩ <;> exact ⟨_, h⟩); clear hb he)
  refine bodyPost_ret (v := .tuple #[.int .u32 0, .int .i64 8]) (by simp [results, Try.results144, go_sem]) rfl ⟨rfl, HB.out⟩
set_option maxRecDepth 100000 in
set_option maxHeartbeats 2000000 in
theorem rword_n (h : MeC 213 215 w FP p M v B C) {x : Nat} (hx : x < 18446744073709551616) (hno : ∀ k o, ¬ Hs M x 4 k o) :
    Calls Try.prog 144 #[.pointer (some ⟨p, 0, none⟩), .int .u64 x] w fun e w' => e = .returned (.tuple #[.int .u32 0, .int .i64 8]) ∧ Below w.heap.size w w' := by
  have HI := Lib.hid (in_n h hx (m := 4) (by omega) hno)
  clear h hno
  go_enter Try.func144, Try.ntmps144
  go_wp2_with (go_at_call 140; refine HI.out.mono ?_; rintro e w1 ⟨rfl, hb⟩; have HB := Lib.hid hb; clear hb)
  all_goals refine bodyPost_ret (v := .tuple #[.int .u32 0, .int .i64 8]) (by simp [results, Try.results144, go_sem]) rfl ⟨rfl, HB.out⟩
/-! ### Write -/
set_option maxRecDepth 100000 in
set_option maxHeartbeats 2000000 in
theorem rwrite_x (h : MeC 213 215 w FP p M v B C) {x k o u : Nat} (hs : Hs M x 8 k o) (h8 : x % 8 = 0) (hW : M.W k = false) :
    Calls Try.prog 63 #[.pointer (some ⟨p, 0, none⟩), .int .u64 x, .int .u64 u] w fun e w' => e = .returned (.int .i64 8) ∧ Below w.heap.size w w' := by
  obtain ⟨ab, cap, hv⟩ := Hs.form' h hs
  have HI := Lib.hid (in_y h hs)
  have HA : Hid (∀ w1, Below w.heap.size w w1 → w1.cell? ⟨p, 0, none⟩ = some v ∧ w1.cell? ⟨ab, k * 5 + 2, none⟩ = some (.bool false)) := Lib.hid (fun w1 hb => ⟨(h.past hb).cv, by rw [((h.past hb).area hv k hs.1).2.2.1, hW]⟩)
  have gk : (k : Int) < M.n := by have := hs.1; omega
  have hkn : k < M.n := hs.1
  have hd : (x : Int) % 8 = 0 := by omega
  subst hv
  clear h hs h8 hW
  go_enter Try.func63, Try.ntmps63
  go_wp2_with (go_at_call 140; refine HI.out.mono ?_; rintro e w1 ⟨rfl, hb⟩; obtain ⟨hcm, hx3⟩ := HA.out w1 hb; have HB := Lib.hid hb; clear hb)
  go_ret
  exact ⟨rfl, HB.out⟩
set_option maxRecDepth 100000 in
set_option maxHeartbeats 2000000 in
theorem rwrite_m (h : MeC 213 215 w FP p M v B C) {x u : Nat} (hx : x < 18446744073709551616) (h8 : ¬ x % 8 = 0) :
    Calls Try.prog 63 #[.pointer (some ⟨p, 0, none⟩), .int .u64 x, .int .u64 u] w fun e w' => e = .returned (.int .i64 8) ∧ Below w.heap.size w w' := by
  have HI := Lib.hid (in_c h x 8 hx (by omega))
  have hd : ¬ (x : Int) % 8 = 0 := by omega
  clear h h8
  go_enter Try.func63, Try.ntmps63
  go_wp2_with (go_at_call 140; refine HI.out.mono ?_; rintro e w1 ⟨he, hb⟩; have HB := Lib.hid hb; obtain ⟨r, rfl⟩ : ∃ r : Int, e = .returned (.int .i64 r) := (by rcases he with ⟨k, o, _, h⟩ | ⟨_, h⟩ <;> exact ⟨_, h⟩); clear hb he)
  go_ret
  exact ⟨rfl, HB.out⟩
set_option maxRecDepth 100000 in
set_option maxHeartbeats 2000000 in
theorem rwrite_n (h : MeC 213 215 w FP p M v B C) {x u : Nat} (hx : x < 18446744073709551616) (hno : ∀ k o, ¬ Hs M x 8 k o) :
    Calls Try.prog 63 #[.pointer (some ⟨p, 0, none⟩), .int .u64 x, .int .u64 u] w fun e w' => e = .returned (.int .i64 8) ∧ Below w.heap.size w w' := by
  have HI := Lib.hid (in_n h hx (m := 8) (by omega) hno)
  clear h hno
  go_enter Try.func63, Try.ntmps63
  go_wp2_with (go_at_call 140; refine HI.out.mono ?_; rintro e w1 ⟨rfl, hb⟩; have HB := Lib.hid hb; clear hb)
  all_goals
    go_ret
    exact ⟨rfl, HB.out⟩
end
end Go.Proofs.Ytnbpgoacooddjaa.Mm
