import Derived.Test.YtjcbhomfggjmhaaMq
namespace Go.Proofs.Ytjcbhomfggjmhaa.Mm
open Go.ChangeShapes Go.WideShapes Go.ChangeAt Go.RowKit
set_option linter.unusedVariables false
theorem shr_exp (j : Nat) (hj : j < 8) : min (IntKind.u64.wrap (IntKind.i64.wrap (8 * (j : Int)))).toNat 64 = 8 * j := by
  have e : IntKind.u64.wrap (IntKind.i64.wrap (8 * (j : Int))) = 8 * (j : Int) := by rw [IntKind.wrap_i64, IntKind.wrap_u64]; omega
  rw [e]
  omega
theorem shr_val (u j : Nat) (hj : j < 8) : IntKind.u8.wrap ((u : Int) / 2 ^ min (IntKind.u64.wrap (IntKind.i64.wrap (8 * (j : Int)))).toNat 64) = (u : Int) / 2 ^ (8 * j) % 256 := by
  rw [shr_exp j hj]
  exact IntKind.wrap_u8 _
section
variable {w : World} {FP : Nat → Prop} {p : Nat} {M : Me} {v : Value} {B C : Nat → Nat}
set_option maxRecDepth 100000 in
set_option maxHeartbeats 8000000 in
theorem rwrite_y (h : MeC 70 72 w FP p M v B C) {x k o u : Nat} (hs : Hs M x 8 k o) (h8 : x % 8 = 0) (hW : M.W k = true) (hu : u < 18446744073709551616) :
    Calls Try.prog 41 #[.pointer (some ⟨p, 0, none⟩), .int .u64 x, .int .u64 u] w fun e w' => e = .returned (.int .i64 0) ∧ MeC 70 72 w' FP p (M.ld k o (byts u 8)) v B C ∧ Kp FP w w' := by
  obtain ⟨ab, cap, hv⟩ := Hs.form' h hs
  have HI := Lib.hid (in_y h hs)
  have HA : Hid (∀ w1, Below w.heap.size w w1 → w1.cell? ⟨p, 0, none⟩ = some v ∧ w1.cell? ⟨ab, k * 5 + 2, none⟩ = some (.bool true)) := Lib.hid (fun w1 hb => ⟨(h.past hb).cv, by rw [((h.past hb).area hv k hs.1).2.2.1, hW]⟩)
  have HF : Hid (∀ w1 N, (∀ i, i ≤ M.n → True) → MeC 70 72 w1 FP p N v B C → N.n = M.n → N.A = M.A → N.S = M.S → w1.cell? ⟨p, 0, none⟩ = some (.slice (some ⟨ab, 0, none⟩) M.n cap) ∧ w1.cell? ⟨ab, k * 5, none⟩ = some (.int .u64 (M.A k : Nat)) ∧ w1.cell? ⟨ab, k * 5 + 4, none⟩ = some (.slice (some ⟨B k, 0, none⟩) (M.S k) (C k))) := Lib.hid (fun w1 N _ hc en eA eS => by
    obtain ⟨f1, f2, f3, f4, f5⟩ := hc.area (by rw [en]; exact hv) k (by rw [en]; exact hs.1)
    rw [eA] at f1
    rw [eS] at f5
    exact ⟨by rw [hc.cv, hv], f1, f5⟩)
  have gk : (k : Int) < M.n := by have := hs.1; omega
  have hkn : k < M.n := hs.1
  have hd : (x : Int) % 8 = 0 := by omega
  have H := Lib.hid h
  have HK : Hid (k < M.n) := Lib.hid hs.1
  have HO : Hid (o + 8 ≤ M.S k) := Lib.hid hs.2.2.2
  have hS16 := (h.ok.sz k hs.1).2.1
  obtain ⟨_, hx, _, _⟩ := hs
  have hw1 : IntKind.u64.wrap ((x : Int) - (M.A k : Int)) = (o : Int) := by have := HO.out; rw [IntKind.wrap_u64]; omega
  subst hv
  clear h h8 hW hx
  go_enter Try.func41, Try.ntmps41
  go_wp2_with (go_at_call 26; refine HI.out.mono ?_; rintro e w1 ⟨rfl, hb⟩; obtain ⟨hcm, hx3⟩ := HA.out w1 hb; have HB := Lib.hid hb; clear hb)
  go_loopw [8] (fun s8 wr => ∃ j : Nat, j ≤ 8 ∧ s8 = .int .i64 j ∧ Hid (MeC 70 72 wr FP p (M.ld k o (byts u j)) (.slice (some ⟨ab, 0, none⟩) M.n cap) B C) ∧ Hid (Kp FP w wr)) (fun s8 _ => 8 - (intOf s8).toNat)
  case atStart => exact ⟨0, by omega, rfl, Lib.hid (H.out.past HB.out), Lib.hid (Kp.of_below HB.out)⟩
  case round =>
    obtain ⟨j, hj, rfl, HM, HKp⟩ := hrel
    by_cases hlt : j < 8
    · obtain ⟨en, eA, eS, _, _⟩ := ld_same k (byts u j) M o
      have HKn : Hid (k < (M.ld k o (byts u j)).n) := Lib.hid (by rw [en]; exact HK.out)
      have HQ : Hid (o + j < (M.ld k o (byts u j)).S k) := Lib.hid (by rw [eS]; have := HO.out; omega)
      have hc : wr.drew.cell? ⟨B k, o + j, none⟩ = some (.int .u8 ((M.ld k o (byts u j)).y k (o + j) : Nat)) := (HM.out.past (below_drewN (Below.refl _ _) 1)).cell HKn.out HQ.out
      have hf : wr.drew.frozen? ⟨B k, o + j, none⟩ = false := (HM.out.past (below_drewN (Below.refl _ _) 1)).frz (o + j) HKn.out
      have HN : Hid (MeC 70 72 (wr.drew.setCell ⟨B k, o + j, none⟩ (.int .u8 (byteOf u j : Nat))) FP p (M.ld k o (byts u (j + 1))) (.slice (some ⟨ab, 0, none⟩) M.n cap) B C) := Lib.hid (by
        have := (HM.out.past (below_drewN (Below.refl _ _) 1)).put1 (by decide) (by decide) HKn.out HQ.out (c := byteOf u j) (Nat.mod_lt _ (by decide))
        rw [show M.ld k o (byts u (j + 1)) = (M.ld k o (byts u j)).put1 k (o + j) (byteOf u j) from by
          show M.ld k o (byts u j ++ [byteOf u j]) = _
          rw [ld_snoc, byts_len]]
        exact this)
      have HKn2 : Hid (Kp FP w (wr.drew.setCell ⟨B k, o + j, none⟩ (.int .u8 (byteOf u j : Nat)))) := Lib.hid (HKp.out.trans ((Kp.of_below (FP := FP) (below_drewN (Below.refl wr.heap.size wr) 1)).trans (kp_set (FP := FP) _ _ _ _ (H.out.fb k HK.out)) fun _ hf => .inl hf) fun _ hf => .inl hf)
      have HSS := Lib.hid (HF.out wr.drew _ (fun _ _ => trivial) (HM.out.past (below_drewN (Below.refl _ _) 1)) en eA eS)
      have HSN := Lib.hid (HF.out _ _ (fun _ _ => trivial) HN.out (ld_same k (byts u (j + 1)) M o).1 (ld_same k (byts u (j + 1)) M o).2.1 (ld_same k (byts u (j + 1)) M o).2.2.1)
      rw [byteOf_cast] at HN HKn2 HSN
      have hw2 : IntKind.u64.wrap ((o : Int) + (j : Int)) = ((o + j : Nat) : Int) := by have := HO.out; rw [IntKind.wrap_u64]; omega
      have hw3 : IntKind.u64.wrap (j : Int) = (j : Int) := by rw [IntKind.wrap_u64]; omega
      have hval := shr_val u j hlt
      have hoj : o + j < M.S k := by have := HO.out; omega
      have ho1 : (0 : Int) ≤ (o : Int) + (j : Int) := by omega
      have ho2 : (o : Int) + (j : Int) < (M.S k : Int) := by omega
      have ho3 : ((o : Int) + (j : Int)).toNat = o + j := by omega
      clear en eA eS
      go_wp2
      refine wp_region_held_drew (S := fun w' => (w'.cell? ⟨p, 0, none⟩ = some (.slice (some ⟨ab, 0, none⟩) M.n cap) ∧ w'.cell? ⟨ab, k * 5, none⟩ = some (.int .u64 (M.A k : Nat)) ∧ w'.cell? ⟨ab, k * 5 + 4, none⟩ = some (.slice (some ⟨B k, 0, none⟩) (M.S k) (C k)))) (by kernel_rfl) HSS.out (fun hHeld => ?_)
      generalize wr.drew = V at hc hf HN HKn2 HSN HSS hHeld ⊢
      refine wpAnyH_take (i := 0) (oi := { dst := some 35, op := Go.Op.move (Go.Operand.tmp 0), type := 31, pos := "ref.go:105", after := #[], guard := none }) (v := ?_) rfl (by kernel_rfl) (by kernel_rfl) (by kernel_rfl) (fun _ _ _ h => h) (Or.inl ⟨by rfl, ?_⟩) (by assumption) ?_
      rotate_left
      · (intro w0 hSw; (try dsimp only at hSw); go_split_ands; go_simp; with_reducible rfl)
      try simp only [Act.put, List.setIfInBounds_toArray, List.set_cons_zero, List.set_cons_succ]
      refine wpAnyH_take (i := 1) (oi := { dst := some 36, op := Go.Op.nilCheck (Go.Operand.tmp 35), type := 0, pos := "ref.go:105", after := #[{ on := 0, ground := Go.Ground.data }], guard := none }) (v := ?_) rfl (by kernel_rfl) (by kernel_rfl) (by kernel_rfl) (fun _ _ _ h => h) (Or.inl ⟨by rfl, ?_⟩) (by assumption) ?_
      rotate_left
      · (intro w0 hSw; (try dsimp only at hSw); go_split_ands; go_simp; with_reducible rfl)
      try simp only [Act.put, List.setIfInBounds_toArray, List.set_cons_zero, List.set_cons_succ]
      refine wpAnyH_take (i := 2) (oi := { dst := some 37, op := Go.Op.fieldAddr 70 (Go.Operand.tmp 36) 0, type := 0, pos := "ref.go:105", after := #[{ on := 1, ground := Go.Ground.data }], guard := none }) (v := ?_) rfl (by kernel_rfl) (by kernel_rfl) (by kernel_rfl) (fun _ _ _ h => h) (Or.inl ⟨by rfl, ?_⟩) (by assumption) ?_
      rotate_left
      · (intro w0 hSw; (try dsimp only at hSw); go_split_ands; go_simp; with_reducible rfl)
      try simp only [Act.put, List.setIfInBounds_toArray, List.set_cons_zero, List.set_cons_succ]
      refine wpAnyH_take (i := 3) (oi := { dst := some 38, op := Go.Op.load 68 (Go.Operand.tmp 37), type := 68, pos := "ref.go:105", after := #[{ on := 2, ground := Go.Ground.data }], guard := none }) (v := ?_) rfl (by kernel_rfl) (by kernel_rfl) (by kernel_rfl) (fun _ _ _ h => h) (Or.inl ⟨by rfl, ?_⟩) (by assumption) ?_
      rotate_left
      · (intro w0 hSw; (try dsimp only at hSw); go_split_ands; go_simp; with_reducible rfl)
      try simp only [Act.put, List.setIfInBounds_toArray, List.set_cons_zero, List.set_cons_succ]
      refine wpAnyH_take (i := 4) (oi := { dst := some 39, op := Go.Op.move (Go.Operand.tmp 7), type := 3, pos := "ref.go:105", after := #[], guard := none }) (v := ?_) rfl (by kernel_rfl) (by kernel_rfl) (by kernel_rfl) (fun _ _ _ h => h) (Or.inl ⟨by rfl, ?_⟩) (by assumption) ?_
      rotate_left
      · (intro w0 hSw; (try dsimp only at hSw); go_split_ands; go_simp; with_reducible rfl)
      try simp only [Act.put, List.setIfInBounds_toArray, List.set_cons_zero, List.set_cons_succ]
      refine wpAnyH_take (i := 5) (oi := { dst := some 40, op := Go.Op.indexAddr 68 (Go.Operand.tmp 38) (Go.Operand.tmp 39), type := 0, pos := "ref.go:105", after := #[{ on := 3, ground := Go.Ground.data }, { on := 4, ground := Go.Ground.data }], guard := none }) (v := ?_) rfl (by kernel_rfl) (by kernel_rfl) (by kernel_rfl) (fun _ _ _ h => h) (Or.inl ⟨by rfl, ?_⟩) (by assumption) ?_
      rotate_left
      · (intro w0 hSw; (try dsimp only at hSw); go_split_ands; go_simp; with_reducible rfl)
      try simp only [Act.put, List.setIfInBounds_toArray, List.set_cons_zero, List.set_cons_succ]
      refine wpAnyH_take (i := 6) (oi := { dst := some 41, op := Go.Op.fieldAddr 72 (Go.Operand.tmp 40) 1, type := 0, pos := "ref.go:105", after := #[{ on := 5, ground := Go.Ground.data }], guard := none }) (v := ?_) rfl (by kernel_rfl) (by kernel_rfl) (by kernel_rfl) (fun _ _ _ h => h) (Or.inl ⟨by rfl, ?_⟩) (by assumption) ?_
      rotate_left
      · (intro w0 hSw; (try dsimp only at hSw); go_split_ands; go_simp; with_reducible rfl)
      try simp only [Act.put, List.setIfInBounds_toArray, List.set_cons_zero, List.set_cons_succ]
      refine wpAnyH_take (i := 7) (oi := { dst := some 42, op := Go.Op.load 22 (Go.Operand.tmp 41), type := 22, pos := "ref.go:105", after := #[{ on := 6, ground := Go.Ground.data }], guard := none }) (v := ?_) rfl (by kernel_rfl) (by kernel_rfl) (by kernel_rfl) (fun _ _ _ h => h) (Or.inl ⟨by rfl, ?_⟩) (by assumption) ?_
      rotate_left
      · (intro w0 hSw; (try dsimp only at hSw); go_split_ands; go_simp; with_reducible rfl)
      try simp only [Act.put, List.setIfInBounds_toArray, List.set_cons_zero, List.set_cons_succ]
      refine wpAnyH_take (i := 8) (oi := { dst := some 43, op := Go.Op.move (Go.Operand.tmp 1), type := 35, pos := "ref.go:105", after := #[], guard := none }) (v := ?_) rfl (by kernel_rfl) (by kernel_rfl) (by kernel_rfl) (fun _ _ _ h => h) (Or.inl ⟨by rfl, ?_⟩) (by assumption) ?_
      rotate_left
      · (intro w0 hSw; (try dsimp only at hSw); go_split_ands; go_simp; with_reducible rfl)
      try simp only [Act.put, List.setIfInBounds_toArray, List.set_cons_zero, List.set_cons_succ]
      refine wpAnyH_take (i := 9) (oi := { dst := some 44, op := Go.Op.move (Go.Operand.tmp 0), type := 31, pos := "ref.go:105", after := #[], guard := none }) (v := ?_) rfl (by kernel_rfl) (by kernel_rfl) (by kernel_rfl) (fun _ _ _ h => h) (Or.inl ⟨by rfl, ?_⟩) (by assumption) ?_
      rotate_left
      · (intro w0 hSw; (try dsimp only at hSw); go_split_ands; go_simp; with_reducible rfl)
      try simp only [Act.put, List.setIfInBounds_toArray, List.set_cons_zero, List.set_cons_succ]
      refine wpAnyH_take (i := 10) (oi := { dst := some 45, op := Go.Op.nilCheck (Go.Operand.tmp 44), type := 0, pos := "ref.go:105", after := #[{ on := 9, ground := Go.Ground.data }], guard := none }) (v := ?_) rfl (by kernel_rfl) (by kernel_rfl) (by kernel_rfl) (fun _ _ _ h => h) (Or.inl ⟨by rfl, ?_⟩) (by assumption) ?_
      rotate_left
      · (intro w0 hSw; (try dsimp only at hSw); go_split_ands; go_simp; with_reducible rfl)
      try simp only [Act.put, List.setIfInBounds_toArray, List.set_cons_zero, List.set_cons_succ]
      refine wpAnyH_take (i := 11) (oi := { dst := some 46, op := Go.Op.fieldAddr 70 (Go.Operand.tmp 45) 0, type := 0, pos := "ref.go:105", after := #[{ on := 10, ground := Go.Ground.data }], guard := none }) (v := ?_) rfl (by kernel_rfl) (by kernel_rfl) (by kernel_rfl) (fun _ _ _ h => h) (Or.inl ⟨by rfl, ?_⟩) (by assumption) ?_
      rotate_left
      · (intro w0 hSw; (try dsimp only at hSw); go_split_ands; go_simp; with_reducible rfl)
      try simp only [Act.put, List.setIfInBounds_toArray, List.set_cons_zero, List.set_cons_succ]
      refine wpAnyH_take (i := 12) (oi := { dst := some 47, op := Go.Op.load 68 (Go.Operand.tmp 46), type := 68, pos := "ref.go:105", after := #[{ on := 11, ground := Go.Ground.data }], guard := none }) (v := ?_) rfl (by kernel_rfl) (by kernel_rfl) (by kernel_rfl) (fun _ _ _ h => h) (Or.inl ⟨by rfl, ?_⟩) (by assumption) ?_
      rotate_left
      · (intro w0 hSw; (try dsimp only at hSw); go_split_ands; go_simp; with_reducible rfl)
      try simp only [Act.put, List.setIfInBounds_toArray, List.set_cons_zero, List.set_cons_succ]
      refine wpAnyH_take (i := 13) (oi := { dst := some 48, op := Go.Op.move (Go.Operand.tmp 7), type := 3, pos := "ref.go:105", after := #[], guard := none }) (v := ?_) rfl (by kernel_rfl) (by kernel_rfl) (by kernel_rfl) (fun _ _ _ h => h) (Or.inl ⟨by rfl, ?_⟩) (by assumption) ?_
      rotate_left
      · (intro w0 hSw; (try dsimp only at hSw); go_split_ands; go_simp; with_reducible rfl)
      try simp only [Act.put, List.setIfInBounds_toArray, List.set_cons_zero, List.set_cons_succ]
      refine wpAnyH_take (i := 14) (oi := { dst := some 49, op := Go.Op.indexAddr 68 (Go.Operand.tmp 47) (Go.Operand.tmp 48), type := 0, pos := "ref.go:105", after := #[{ on := 12, ground := Go.Ground.data }, { on := 13, ground := Go.Ground.data }], guard := none }) (v := ?_) rfl (by kernel_rfl) (by kernel_rfl) (by kernel_rfl) (fun _ _ _ h => h) (Or.inl ⟨by rfl, ?_⟩) (by assumption) ?_
      rotate_left
      · (intro w0 hSw; (try dsimp only at hSw); go_split_ands; go_simp; with_reducible rfl)
      try simp only [Act.put, List.setIfInBounds_toArray, List.set_cons_zero, List.set_cons_succ]
      refine wpAnyH_take (i := 15) (oi := { dst := some 50, op := Go.Op.fieldAddr 72 (Go.Operand.tmp 49) 0, type := 0, pos := "ref.go:105", after := #[{ on := 14, ground := Go.Ground.data }], guard := none }) (v := ?_) rfl (by kernel_rfl) (by kernel_rfl) (by kernel_rfl) (fun _ _ _ h => h) (Or.inl ⟨by rfl, ?_⟩) (by assumption) ?_
      rotate_left
      · (intro w0 hSw; (try dsimp only at hSw); go_split_ands; go_simp; with_reducible rfl)
      try simp only [Act.put, List.setIfInBounds_toArray, List.set_cons_zero, List.set_cons_succ]
      refine wpAnyH_take (i := 16) (oi := { dst := some 51, op := Go.Op.fieldAddr 58 (Go.Operand.tmp 50) 0, type := 0, pos := "ref.go:105", after := #[{ on := 15, ground := Go.Ground.data }], guard := none }) (v := ?_) rfl (by kernel_rfl) (by kernel_rfl) (by kernel_rfl) (fun _ _ _ h => h) (Or.inl ⟨by rfl, ?_⟩) (by assumption) ?_
      rotate_left
      · (intro w0 hSw; (try dsimp only at hSw); go_split_ands; go_simp; with_reducible rfl)
      try simp only [Act.put, List.setIfInBounds_toArray, List.set_cons_zero, List.set_cons_succ]
      refine wpAnyH_take (i := 17) (oi := { dst := some 52, op := Go.Op.load 35 (Go.Operand.tmp 51), type := 35, pos := "ref.go:105", after := #[{ on := 16, ground := Go.Ground.data }], guard := none }) (v := ?_) rfl (by kernel_rfl) (by kernel_rfl) (by kernel_rfl) (fun _ _ _ h => h) (Or.inl ⟨by rfl, ?_⟩) (by assumption) ?_
      rotate_left
      · (intro w0 hSw; (try dsimp only at hSw); go_split_ands; go_simp; with_reducible rfl)
      try simp only [Act.put, List.setIfInBounds_toArray, List.set_cons_zero, List.set_cons_succ]
      refine wpAnyH_take (i := 18) (oi := { dst := some 53, op := Go.Op.binOp Go.BinOp.sub 35 (Go.Operand.tmp 43) (Go.Operand.tmp 52) 35, type := 35, pos := "ref.go:105", after := #[{ on := 8, ground := Go.Ground.data }, { on := 17, ground := Go.Ground.data }], guard := none }) (v := ?_) rfl (by kernel_rfl) (by kernel_rfl) (by kernel_rfl) (fun _ _ _ h => h) (Or.inl ⟨by rfl, ?_⟩) (by assumption) ?_
      rotate_left
      · (intro w0 hSw; (try dsimp only at hSw); go_split_ands; go_simp; with_reducible rfl)
      try simp only [Act.put, List.setIfInBounds_toArray, List.set_cons_zero, List.set_cons_succ]
      refine wpAnyH_take (i := 19) (oi := { dst := some 54, op := Go.Op.move (Go.Operand.tmp 8), type := 3, pos := "ref.go:105", after := #[], guard := none }) (v := ?_) rfl (by kernel_rfl) (by kernel_rfl) (by kernel_rfl) (fun _ _ _ h => h) (Or.inl ⟨by rfl, ?_⟩) (by assumption) ?_
      rotate_left
      · (intro w0 hSw; (try dsimp only at hSw); go_split_ands; go_simp; with_reducible rfl)
      try simp only [Act.put, List.setIfInBounds_toArray, List.set_cons_zero, List.set_cons_succ]
      refine wpAnyH_take (i := 20) (oi := { dst := some 55, op := Go.Op.convert 3 35 (Go.Operand.tmp 54), type := 35, pos := "ref.go:105", after := #[{ on := 19, ground := Go.Ground.data }], guard := none }) (v := ?_) rfl (by kernel_rfl) (by kernel_rfl) (by kernel_rfl) (fun _ _ _ h => h) (Or.inl ⟨by rfl, ?_⟩) (by assumption) ?_
      rotate_left
      · (intro w0 hSw; (try dsimp only at hSw); go_split_ands; go_simp; with_reducible rfl)
      try simp only [Act.put, List.setIfInBounds_toArray, List.set_cons_zero, List.set_cons_succ]
      refine wpAnyH_take (i := 21) (oi := { dst := some 56, op := Go.Op.binOp Go.BinOp.add 35 (Go.Operand.tmp 53) (Go.Operand.tmp 55) 35, type := 35, pos := "ref.go:105", after := #[{ on := 18, ground := Go.Ground.data }, { on := 20, ground := Go.Ground.data }], guard := none }) (v := ?_) rfl (by kernel_rfl) (by kernel_rfl) (by kernel_rfl) (fun _ _ _ h => h) (Or.inl ⟨by rfl, ?_⟩) (by assumption) ?_
      rotate_left
      · (intro w0 hSw; (try dsimp only at hSw); go_split_ands; go_simp; with_reducible rfl)
      try simp only [Act.put, List.setIfInBounds_toArray, List.set_cons_zero, List.set_cons_succ]
      refine wpAnyH_take (i := 22) (oi := { dst := some 57, op := Go.Op.move (Go.Operand.tmp 2), type := 35, pos := "ref.go:105", after := #[], guard := none }) (v := ?_) rfl (by kernel_rfl) (by kernel_rfl) (by kernel_rfl) (fun _ _ _ h => h) (Or.inl ⟨by rfl, ?_⟩) (by assumption) ?_
      rotate_left
      · (intro w0 hSw; (try dsimp only at hSw); go_split_ands; go_simp; with_reducible rfl)
      try simp only [Act.put, List.setIfInBounds_toArray, List.set_cons_zero, List.set_cons_succ]
      refine wpAnyH_take (i := 23) (oi := { dst := some 58, op := Go.Op.move (Go.Operand.tmp 8), type := 3, pos := "ref.go:105", after := #[], guard := none }) (v := ?_) rfl (by kernel_rfl) (by kernel_rfl) (by kernel_rfl) (fun _ _ _ h => h) (Or.inl ⟨by rfl, ?_⟩) (by assumption) ?_
      rotate_left
      · (intro w0 hSw; (try dsimp only at hSw); go_split_ands; go_simp; with_reducible rfl)
      try simp only [Act.put, List.setIfInBounds_toArray, List.set_cons_zero, List.set_cons_succ]
      refine wpAnyH_take (i := 24) (oi := { dst := some 59, op := Go.Op.binOp Go.BinOp.mul 3 (Go.Operand.const (Go.Value.int Go.IntKind.i64 8)) (Go.Operand.tmp 58) 3, type := 3, pos := "ref.go:105", after := #[{ on := 23, ground := Go.Ground.data }], guard := none }) (v := ?_) rfl (by kernel_rfl) (by kernel_rfl) (by kernel_rfl) (fun _ _ _ h => h) (Or.inl ⟨by rfl, ?_⟩) (by assumption) ?_
      rotate_left
      · (intro w0 hSw; (try dsimp only at hSw); go_split_ands; go_simp; with_reducible rfl)
      try simp only [Act.put, List.setIfInBounds_toArray, List.set_cons_zero, List.set_cons_succ]
      refine wpAnyH_take (i := 25) (oi := { dst := some 60, op := Go.Op.convert 3 119 (Go.Operand.tmp 59), type := 119, pos := "ref.go:105", after := #[{ on := 24, ground := Go.Ground.data }], guard := none }) (v := ?_) rfl (by kernel_rfl) (by kernel_rfl) (by kernel_rfl) (fun _ _ _ h => h) (Or.inl ⟨by rfl, ?_⟩) (by assumption) ?_
      rotate_left
      · (intro w0 hSw; (try dsimp only at hSw); go_split_ands; go_simp; with_reducible rfl)
      try simp only [Act.put, List.setIfInBounds_toArray, List.set_cons_zero, List.set_cons_succ]
      refine wpAnyH_take (i := 26) (oi := { dst := some 61, op := Go.Op.binOp Go.BinOp.shr 35 (Go.Operand.tmp 57) (Go.Operand.tmp 60) 119, type := 35, pos := "ref.go:105", after := #[{ on := 22, ground := Go.Ground.data }, { on := 25, ground := Go.Ground.data }], guard := none }) (v := ?_) rfl (by kernel_rfl) (by kernel_rfl) (by kernel_rfl) (fun _ _ _ h => h) (Or.inl ⟨by rfl, ?_⟩) (by assumption) ?_
      rotate_left
      · (intro w0 hSw; (try dsimp only at hSw); go_split_ands; go_simp; with_reducible rfl)
      try simp only [Act.put, List.setIfInBounds_toArray, List.set_cons_zero, List.set_cons_succ]
      refine wpAnyH_take (i := 27) (oi := { dst := some 62, op := Go.Op.convert 35 5 (Go.Operand.tmp 61), type := 5, pos := "ref.go:105", after := #[{ on := 26, ground := Go.Ground.data }], guard := none }) (v := ?_) rfl (by kernel_rfl) (by kernel_rfl) (by kernel_rfl) (fun _ _ _ h => h) (Or.inl ⟨by rfl, ?_⟩) (by assumption) ?_
      rotate_left
      · (intro w0 hSw; (try dsimp only at hSw); go_split_ands; go_simp; with_reducible rfl)
      try simp only [Act.put, List.setIfInBounds_toArray, List.set_cons_zero, List.set_cons_succ]
      refine wpAnyH_take (i := 28) (oi := { dst := some 63, op := Go.Op.indexAddr 22 (Go.Operand.tmp 42) (Go.Operand.tmp 56), type := 0, pos := "ref.go:105", after := #[{ on := 7, ground := Go.Ground.data }, { on := 21, ground := Go.Ground.data }, { on := 0, ground := Go.Ground.phase }, { on := 1, ground := Go.Ground.phase }, { on := 2, ground := Go.Ground.phase }, { on := 3, ground := Go.Ground.phase }, { on := 4, ground := Go.Ground.phase }, { on := 5, ground := Go.Ground.phase }, { on := 6, ground := Go.Ground.phase }, { on := 7, ground := Go.Ground.phase }, { on := 8, ground := Go.Ground.phase }, { on := 9, ground := Go.Ground.phase }, { on := 10, ground := Go.Ground.phase }, { on := 11, ground := Go.Ground.phase }, { on := 12, ground := Go.Ground.phase }, { on := 13, ground := Go.Ground.phase }, { on := 14, ground := Go.Ground.phase }, { on := 15, ground := Go.Ground.phase }, { on := 16, ground := Go.Ground.phase }, { on := 17, ground := Go.Ground.phase }, { on := 18, ground := Go.Ground.phase }, { on := 19, ground := Go.Ground.phase }, { on := 20, ground := Go.Ground.phase }, { on := 21, ground := Go.Ground.phase }, { on := 22, ground := Go.Ground.phase }, { on := 23, ground := Go.Ground.phase }, { on := 24, ground := Go.Ground.phase }, { on := 25, ground := Go.Ground.phase }, { on := 26, ground := Go.Ground.phase }, { on := 27, ground := Go.Ground.phase }], guard := none }) (v := ?_) rfl (by kernel_rfl) (by kernel_rfl) (by kernel_rfl) (fun _ _ _ h => h) (Or.inl ⟨by rfl, ?_⟩) (by assumption) ?_
      rotate_left
      · (intro w0 hSw; (try dsimp only at hSw); go_split_ands; go_simp; with_reducible rfl)
      try simp only [Act.put, List.setIfInBounds_toArray, List.set_cons_zero, List.set_cons_succ]
      refine wpAnyH_ready (rs := [29]) (by kernel_rfl) (by simp) ?_
      refine AllReadyH.cons (o := { dst := none, op := Go.Op.store 5 (Go.Operand.tmp 63) (Go.Operand.tmp 62), type := 0, pos := "ref.go:105", after := #[{ on := 28, ground := Go.Ground.data }, { on := 27, ground := Go.Ground.data }, { on := 0, ground := Go.Ground.phase }, { on := 1, ground := Go.Ground.phase }, { on := 2, ground := Go.Ground.phase }, { on := 3, ground := Go.Ground.phase }, { on := 4, ground := Go.Ground.phase }, { on := 5, ground := Go.Ground.phase }, { on := 6, ground := Go.Ground.phase }, { on := 7, ground := Go.Ground.phase }, { on := 8, ground := Go.Ground.phase }, { on := 9, ground := Go.Ground.phase }, { on := 10, ground := Go.Ground.phase }, { on := 11, ground := Go.Ground.phase }, { on := 12, ground := Go.Ground.phase }, { on := 13, ground := Go.Ground.phase }, { on := 14, ground := Go.Ground.phase }, { on := 15, ground := Go.Ground.phase }, { on := 16, ground := Go.Ground.phase }, { on := 17, ground := Go.Ground.phase }, { on := 18, ground := Go.Ground.phase }, { on := 19, ground := Go.Ground.phase }, { on := 20, ground := Go.Ground.phase }, { on := 21, ground := Go.Ground.phase }, { on := 22, ground := Go.Ground.phase }, { on := 23, ground := Go.Ground.phase }, { on := 24, ground := Go.Ground.phase }, { on := 25, ground := Go.Ground.phase }, { on := 26, ground := Go.Ground.phase }, { on := 27, ground := Go.Ground.phase }], guard := none }) rfl (fun K hK => ?_) AllReadyH.nil
      go_simp
      try simp only [hc, hf, hval, Bool.false_eq_true, if_false, Result.andThen_ok]
      try go_simp
      refine hK.out _ _ HSN.out (fun hHeld => ?_)
      clear hK K
      try simp only [Act.put, List.setIfInBounds_toArray, List.set_cons_zero, List.set_cons_succ]
      refine wpAnyH_done (by kernel_rfl) ?_ _
      clear hHeld
      go_wp2
      exact ⟨⟨j + 1, by omega, by go_num, HN, HKn2⟩, by simp [intOf]; omega⟩
    · obtain rfl : j = 8 := by omega
      go_wp2
      go_ret
      exact ⟨rfl, HM.out, HKp.out⟩
end
end Go.Proofs.Ytjcbhomfggjmhaa.Mm
