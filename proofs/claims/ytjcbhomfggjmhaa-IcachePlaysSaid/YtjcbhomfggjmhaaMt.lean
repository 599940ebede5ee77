import Derived.Test.YtjcbhomfggjmhaaMr
namespace Go.Proofs.Ytjcbhomfggjmhaa.Mm
open Go.ChangeShapes Go.WideShapes Go.ChangeAt Go.RowKit
set_option linter.unusedVariables false
section
variable {w : World} {FP : Nat → Prop} {p : Nat} {M : Me} {v : Value} {B C : Nat → Nat}
end
end Go.Proofs.Ytjcbhomfggjmhaa.Mm
namespace Go.Proofs.Ytjcbhomfggjmhaa.Mm
open Go.ChangeShapes Go.WideShapes Go.ChangeAt Go.RowKit
set_option linter.unusedVariables false
section
variable {w : World} {FP : Nat → Prop} {p : Nat} {M : Me} {v : Value} {B C : Nat → Nat}
set_option maxRecDepth 100000 in
set_option maxHeartbeats 8000000 in
theorem rload_y (h : MeC 70 72 w FP p M v B C) {x k o m cs : Nat} {sp : Option Addr} {l : Nat → Nat} (hs : Hs M x m k o) (hcs : m ≤ cs) (hsp : 0 < m → ∃ sb so, sp = some ⟨sb, so, none⟩ ∧ ¬ FP sb ∧ sb < w.heap.size ∧ ∀ j, j < m → w.cell? ⟨sb, so + j, none⟩ = some (.int .u8 (l j : Nat))) (hl : ∀ j, l j < 256) :
    Calls Try.prog 9 #[.pointer (some ⟨p, 0, none⟩), .int .u64 x, .slice sp m cs] w fun e w' => e = .returned (.int .i64 0) ∧ MeC 70 72 w' FP p (M.ld k o ((List.range m).map l)) v B C ∧ Kp FP w w' := by
  obtain ⟨ab, cap, hv⟩ := Hs.form' h hs
  have HI := Lib.hid (in_y h hs)
  have HSP := Lib.hid hsp
  have HLL := Lib.hid hl
  have HF : Hid (∀ w1 N, MeC 70 72 w1 FP p N v B C → N.n = M.n → N.A = M.A → N.S = M.S → w1.cell? ⟨p, 0, none⟩ = some (.slice (some ⟨ab, 0, none⟩) M.n cap) ∧ w1.cell? ⟨ab, k * 5, none⟩ = some (.int .u64 (M.A k : Nat)) ∧ w1.cell? ⟨ab, k * 5 + 4, none⟩ = some (.slice (some ⟨B k, 0, none⟩) (M.S k) (C k))) := Lib.hid (fun w1 N hc en eA eS => by
    obtain ⟨f1, f2, f3, f4, f5⟩ := hc.area (by rw [en]; exact hv) k (by rw [en]; exact hs.1)
    rw [eA] at f1
    rw [eS] at f5
    exact ⟨by rw [hc.cv, hv], f1, f5⟩)
  have gk : (k : Int) < M.n := by have := hs.1; omega
  have hkn : k < M.n := hs.1
  have H := Lib.hid h
  have HK : Hid (k < M.n) := Lib.hid hs.1
  have HO : Hid (o + m ≤ M.S k) := Lib.hid hs.2.2.2
  have hS16 := (h.ok.sz k hs.1).2.1
  obtain ⟨_, hx, _, _⟩ := hs
  have hm16 : m ≤ 16777216 := by have := HO.out; omega
  have hwm : IntKind.u64.wrap (m : Int) = (m : Int) := by rw [IntKind.wrap_u64]; omega
  have hw1 : IntKind.u64.wrap ((x : Int) - (M.A k : Int)) = (o : Int) := by have := HO.out; have := (h.ok.sz k hkn).2.2.1; rw [IntKind.wrap_u64]; omega
  subst hv
  clear h hx hsp hl
  go_enter Try.func9, Try.ntmps9
  go_wp2_with (go_at_call 26; refine HI.out.mono ?_; rintro e w1 ⟨rfl, hb⟩; have HB := Lib.hid hb; clear hb)
  go_loopw [8] (fun s8 wr => ∃ j : Nat, j ≤ m ∧ s8 = .int .i64 j ∧ Hid (MeC 70 72 wr FP p (M.ld k o ((List.range j).map l)) (.slice (some ⟨ab, 0, none⟩) M.n cap) B C) ∧ Hid (Kp FP w wr)) (fun s8 _ => m - (intOf s8).toNat)
  case atStart => exact ⟨0, by omega, rfl, Lib.hid (H.out.past HB.out), Lib.hid (Kp.of_below HB.out)⟩
  case round =>
    obtain ⟨j, hj, rfl, HM, HKp⟩ := hrel
    by_cases hlt : j < m
    · obtain ⟨sb, so, rfl, hsf, hsl, hsc⟩ := HSP.out (by omega)
      obtain ⟨c, hcl⟩ : ∃ c, l j = c := ⟨_, rfl⟩
      have hc256 : c < 256 := by rw [← hcl]; exact HLL.out j
      obtain ⟨en, eA, eS, _, _⟩ := ld_same k ((List.range j).map l) M o
      have HKn : Hid (k < (M.ld k o ((List.range j).map l)).n) := Lib.hid (by rw [en]; exact HK.out)
      have HQ : Hid (o + j < (M.ld k o ((List.range j).map l)).S k) := Lib.hid (by rw [eS]; have := HO.out; omega)
      have hc : wr.drew.cell? ⟨B k, o + j, none⟩ = some (.int .u8 ((M.ld k o ((List.range j).map l)).y k (o + j) : Nat)) := (HM.out.past (below_drewN (Below.refl _ _) 1)).cell HKn.out HQ.out
      have hf : wr.drew.frozen? ⟨B k, o + j, none⟩ = false := (HM.out.past (below_drewN (Below.refl _ _) 1)).frz (o + j) HKn.out
      have HN : Hid (MeC 70 72 (wr.drew.setCell ⟨B k, o + j, none⟩ (.int .u8 (c : Nat))) FP p (M.ld k o ((List.range (j + 1)).map l)) (.slice (some ⟨ab, 0, none⟩) M.n cap) B C) := Lib.hid (by
        have := (HM.out.past (below_drewN (Below.refl _ _) 1)).put1 (by decide) (by decide) HKn.out HQ.out (c := c) hc256
        rw [show M.ld k o ((List.range (j + 1)).map l) = (M.ld k o ((List.range j).map l)).put1 k (o + j) c from by
          rw [List.range_succ, List.map_append, List.map_cons, List.map_nil, ld_snoc, List.length_map, List.length_range, hcl]]
        exact this)
      have HKn2 : Hid (Kp FP w (wr.drew.setCell ⟨B k, o + j, none⟩ (.int .u8 (c : Nat)))) := Lib.hid (HKp.out.trans ((Kp.of_below (FP := FP) (below_drewN (Below.refl wr.heap.size wr) 1)).trans (kp_set (FP := FP) _ _ _ _ (H.out.fb k HK.out)) fun _ hf => .inl hf) fun _ hf => .inl hf)
      have hsrc : ∀ w1, Kp FP w w1 → w1.cell? ⟨sb, so + j, none⟩ = some (.int .u8 (c : Nat)) := fun w1 hk1 => by
        have := hsc j hlt
        rw [hcl] at this
        rw [← this]
        unfold World.cell?
        rw [hk1.block sb hsl hsf]
      have HSS := Lib.hid (show (wr.drew.cell? ⟨p, 0, none⟩ = some (.slice (some ⟨ab, 0, none⟩) M.n cap) ∧ wr.drew.cell? ⟨ab, k * 5, none⟩ = some (.int .u64 (M.A k : Nat)) ∧ wr.drew.cell? ⟨ab, k * 5 + 4, none⟩ = some (.slice (some ⟨B k, 0, none⟩) (M.S k) (C k)) ∧ wr.drew.cell? ⟨sb, so + j, none⟩ = some (.int .u8 (c : Nat))) from ⟨(HF.out wr.drew _ (HM.out.past (below_drewN (Below.refl _ _) 1)) en eA eS).1, (HF.out wr.drew _ (HM.out.past (below_drewN (Below.refl _ _) 1)) en eA eS).2.1, (HF.out wr.drew _ (HM.out.past (below_drewN (Below.refl _ _) 1)) en eA eS).2.2, hsrc _ (HKp.out.trans (Kp.of_below (FP := FP) (below_drewN (Below.refl wr.heap.size wr) 1)) fun _ hf => .inl hf)⟩)
      have hE := ld_same k ((List.range (j + 1)).map l) M o
      have HSN := Lib.hid (show ((wr.drew.setCell ⟨B k, o + j, none⟩ (.int .u8 (c : Nat))).cell? ⟨p, 0, none⟩ = some (.slice (some ⟨ab, 0, none⟩) M.n cap) ∧ (wr.drew.setCell ⟨B k, o + j, none⟩ (.int .u8 (c : Nat))).cell? ⟨ab, k * 5, none⟩ = some (.int .u64 (M.A k : Nat)) ∧ (wr.drew.setCell ⟨B k, o + j, none⟩ (.int .u8 (c : Nat))).cell? ⟨ab, k * 5 + 4, none⟩ = some (.slice (some ⟨B k, 0, none⟩) (M.S k) (C k)) ∧ (wr.drew.setCell ⟨B k, o + j, none⟩ (.int .u8 (c : Nat))).cell? ⟨sb, so + j, none⟩ = some (.int .u8 (c : Nat))) from ⟨(HF.out _ _ HN.out hE.1 hE.2.1 hE.2.2.1).1, (HF.out _ _ HN.out hE.1 hE.2.1 hE.2.2.1).2.1, (HF.out _ _ HN.out hE.1 hE.2.1 hE.2.2.1).2.2, hsrc _ HKn2.out⟩)
      have hw2 : IntKind.u64.wrap ((o : Int) + (j : Int)) = ((o + j : Nat) : Int) := by have := HO.out; rw [IntKind.wrap_u64]; omega
      have hw3 : IntKind.u64.wrap (j : Int) = (j : Int) := by rw [IntKind.wrap_u64]; omega
      have gj : (j : Int) < m := by omega
      have hoj : o + j < M.S k := by have := HO.out; omega
      have ho1 : (0 : Int) ≤ (o : Int) + (j : Int) := by omega
      have ho2 : (o : Int) + (j : Int) < (M.S k : Int) := by omega
      have ho3 : ((o : Int) + (j : Int)).toNat = o + j := by omega
      clear en eA eS hE hsrc hsc hcl
      go_wp2
      refine wp_region_held_drew (S := fun w' => (w'.cell? ⟨p, 0, none⟩ = some (.slice (some ⟨ab, 0, none⟩) M.n cap) ∧ w'.cell? ⟨ab, k * 5, none⟩ = some (.int .u64 (M.A k : Nat)) ∧ w'.cell? ⟨ab, k * 5 + 4, none⟩ = some (.slice (some ⟨B k, 0, none⟩) (M.S k) (C k)) ∧ w'.cell? ⟨sb, so + j, none⟩ = some (.int .u8 (c : Nat)))) (by kernel_rfl) HSS.out (fun hHeld => ?_)
      generalize wr.drew = V at hc hf HN HKn2 HSN HSS hHeld ⊢
      refine wpAnyH_take (i := 0) (oi := { dst := some 23, op := Go.Op.move (Go.Operand.tmp 0), type := 31, pos := "ref.go:126", after := #[], guard := none }) (v := ?_) rfl (by kernel_rfl) (by kernel_rfl) (by kernel_rfl) (fun _ _ _ h => h) (Or.inl ⟨by rfl, ?_⟩) (by assumption) ?_
      rotate_left
      · (intro w0 hSw; (try dsimp only at hSw); go_split_ands; go_simp; with_reducible rfl)
      try simp only [Act.put, List.setIfInBounds_toArray, List.set_cons_zero, List.set_cons_succ]
      refine wpAnyH_take (i := 1) (oi := { dst := some 24, op := Go.Op.nilCheck (Go.Operand.tmp 23), type := 0, pos := "ref.go:126", after := #[{ on := 0, ground := Go.Ground.data }], guard := none }) (v := ?_) rfl (by kernel_rfl) (by kernel_rfl) (by kernel_rfl) (fun _ _ _ h => h) (Or.inl ⟨by rfl, ?_⟩) (by assumption) ?_
      rotate_left
      · (intro w0 hSw; (try dsimp only at hSw); go_split_ands; go_simp; with_reducible rfl)
      try simp only [Act.put, List.setIfInBounds_toArray, List.set_cons_zero, List.set_cons_succ]
      refine wpAnyH_take (i := 2) (oi := { dst := some 25, op := Go.Op.fieldAddr 70 (Go.Operand.tmp 24) 0, type := 0, pos := "ref.go:126", after := #[{ on := 1, ground := Go.Ground.data }], guard := none }) (v := ?_) rfl (by kernel_rfl) (by kernel_rfl) (by kernel_rfl) (fun _ _ _ h => h) (Or.inl ⟨by rfl, ?_⟩) (by assumption) ?_
      rotate_left
      · (intro w0 hSw; (try dsimp only at hSw); go_split_ands; go_simp; with_reducible rfl)
      try simp only [Act.put, List.setIfInBounds_toArray, List.set_cons_zero, List.set_cons_succ]
      refine wpAnyH_take (i := 3) (oi := { dst := some 26, op := Go.Op.load 68 (Go.Operand.tmp 25), type := 68, pos := "ref.go:126", after := #[{ on := 2, ground := Go.Ground.data }], guard := none }) (v := ?_) rfl (by kernel_rfl) (by kernel_rfl) (by kernel_rfl) (fun _ _ _ h => h) (Or.inl ⟨by rfl, ?_⟩) (by assumption) ?_
      rotate_left
      · (intro w0 hSw; (try dsimp only at hSw); go_split_ands; go_simp; with_reducible rfl)
      try simp only [Act.put, List.setIfInBounds_toArray, List.set_cons_zero, List.set_cons_succ]
      refine wpAnyH_take (i := 4) (oi := { dst := some 27, op := Go.Op.move (Go.Operand.tmp 7), type := 3, pos := "ref.go:126", after := #[], guard := none }) (v := ?_) rfl (by kernel_rfl) (by kernel_rfl) (by kernel_rfl) (fun _ _ _ h => h) (Or.inl ⟨by rfl, ?_⟩) (by assumption) ?_
      rotate_left
      · (intro w0 hSw; (try dsimp only at hSw); go_split_ands; go_simp; with_reducible rfl)
      try simp only [Act.put, List.setIfInBounds_toArray, List.set_cons_zero, List.set_cons_succ]
      refine wpAnyH_take (i := 5) (oi := { dst := some 28, op := Go.Op.indexAddr 68 (Go.Operand.tmp 26) (Go.Operand.tmp 27), type := 0, pos := "ref.go:126", after := #[{ on := 3, ground := Go.Ground.data }, { on := 4, ground := Go.Ground.data }], guard := none }) (v := ?_) rfl (by kernel_rfl) (by kernel_rfl) (by kernel_rfl) (fun _ _ _ h => h) (Or.inl ⟨by rfl, ?_⟩) (by assumption) ?_
      rotate_left
      · (intro w0 hSw; (try dsimp only at hSw); go_split_ands; go_simp; with_reducible rfl)
      try simp only [Act.put, List.setIfInBounds_toArray, List.set_cons_zero, List.set_cons_succ]
      refine wpAnyH_take (i := 6) (oi := { dst := some 29, op := Go.Op.fieldAddr 72 (Go.Operand.tmp 28) 1, type := 0, pos := "ref.go:126", after := #[{ on := 5, ground := Go.Ground.data }], guard := none }) (v := ?_) rfl (by kernel_rfl) (by kernel_rfl) (by kernel_rfl) (fun _ _ _ h => h) (Or.inl ⟨by rfl, ?_⟩) (by assumption) ?_
      rotate_left
      · (intro w0 hSw; (try dsimp only at hSw); go_split_ands; go_simp; with_reducible rfl)
      try simp only [Act.put, List.setIfInBounds_toArray, List.set_cons_zero, List.set_cons_succ]
      refine wpAnyH_take (i := 7) (oi := { dst := some 30, op := Go.Op.load 22 (Go.Operand.tmp 29), type := 22, pos := "ref.go:126", after := #[{ on := 6, ground := Go.Ground.data }], guard := none }) (v := ?_) rfl (by kernel_rfl) (by kernel_rfl) (by kernel_rfl) (fun _ _ _ h => h) (Or.inl ⟨by rfl, ?_⟩) (by assumption) ?_
      rotate_left
      · (intro w0 hSw; (try dsimp only at hSw); go_split_ands; go_simp; with_reducible rfl)
      try simp only [Act.put, List.setIfInBounds_toArray, List.set_cons_zero, List.set_cons_succ]
      refine wpAnyH_take (i := 8) (oi := { dst := some 31, op := Go.Op.move (Go.Operand.tmp 1), type := 35, pos := "ref.go:126", after := #[], guard := none }) (v := ?_) rfl (by kernel_rfl) (by kernel_rfl) (by kernel_rfl) (fun _ _ _ h => h) (Or.inl ⟨by rfl, ?_⟩) (by assumption) ?_
      rotate_left
      · (intro w0 hSw; (try dsimp only at hSw); go_split_ands; go_simp; with_reducible rfl)
      try simp only [Act.put, List.setIfInBounds_toArray, List.set_cons_zero, List.set_cons_succ]
      refine wpAnyH_take (i := 9) (oi := { dst := some 32, op := Go.Op.move (Go.Operand.tmp 0), type := 31, pos := "ref.go:126", after := #[], guard := none }) (v := ?_) rfl (by kernel_rfl) (by kernel_rfl) (by kernel_rfl) (fun _ _ _ h => h) (Or.inl ⟨by rfl, ?_⟩) (by assumption) ?_
      rotate_left
      · (intro w0 hSw; (try dsimp only at hSw); go_split_ands; go_simp; with_reducible rfl)
      try simp only [Act.put, List.setIfInBounds_toArray, List.set_cons_zero, List.set_cons_succ]
      refine wpAnyH_take (i := 10) (oi := { dst := some 33, op := Go.Op.nilCheck (Go.Operand.tmp 32), type := 0, pos := "ref.go:126", after := #[{ on := 9, ground := Go.Ground.data }], guard := none }) (v := ?_) rfl (by kernel_rfl) (by kernel_rfl) (by kernel_rfl) (fun _ _ _ h => h) (Or.inl ⟨by rfl, ?_⟩) (by assumption) ?_
      rotate_left
      · (intro w0 hSw; (try dsimp only at hSw); go_split_ands; go_simp; with_reducible rfl)
      try simp only [Act.put, List.setIfInBounds_toArray, List.set_cons_zero, List.set_cons_succ]
      refine wpAnyH_take (i := 11) (oi := { dst := some 34, op := Go.Op.fieldAddr 70 (Go.Operand.tmp 33) 0, type := 0, pos := "ref.go:126", after := #[{ on := 10, ground := Go.Ground.data }], guard := none }) (v := ?_) rfl (by kernel_rfl) (by kernel_rfl) (by kernel_rfl) (fun _ _ _ h => h) (Or.inl ⟨by rfl, ?_⟩) (by assumption) ?_
      rotate_left
      · (intro w0 hSw; (try dsimp only at hSw); go_split_ands; go_simp; with_reducible rfl)
      try simp only [Act.put, List.setIfInBounds_toArray, List.set_cons_zero, List.set_cons_succ]
      refine wpAnyH_take (i := 12) (oi := { dst := some 35, op := Go.Op.load 68 (Go.Operand.tmp 34), type := 68, pos := "ref.go:126", after := #[{ on := 11, ground := Go.Ground.data }], guard := none }) (v := ?_) rfl (by kernel_rfl) (by kernel_rfl) (by kernel_rfl) (fun _ _ _ h => h) (Or.inl ⟨by rfl, ?_⟩) (by assumption) ?_
      rotate_left
      · (intro w0 hSw; (try dsimp only at hSw); go_split_ands; go_simp; with_reducible rfl)
      try simp only [Act.put, List.setIfInBounds_toArray, List.set_cons_zero, List.set_cons_succ]
      refine wpAnyH_take (i := 13) (oi := { dst := some 36, op := Go.Op.move (Go.Operand.tmp 7), type := 3, pos := "ref.go:126", after := #[], guard := none }) (v := ?_) rfl (by kernel_rfl) (by kernel_rfl) (by kernel_rfl) (fun _ _ _ h => h) (Or.inl ⟨by rfl, ?_⟩) (by assumption) ?_
      rotate_left
      · (intro w0 hSw; (try dsimp only at hSw); go_split_ands; go_simp; with_reducible rfl)
      try simp only [Act.put, List.setIfInBounds_toArray, List.set_cons_zero, List.set_cons_succ]
      refine wpAnyH_take (i := 14) (oi := { dst := some 37, op := Go.Op.indexAddr 68 (Go.Operand.tmp 35) (Go.Operand.tmp 36), type := 0, pos := "ref.go:126", after := #[{ on := 12, ground := Go.Ground.data }, { on := 13, ground := Go.Ground.data }], guard := none }) (v := ?_) rfl (by kernel_rfl) (by kernel_rfl) (by kernel_rfl) (fun _ _ _ h => h) (Or.inl ⟨by rfl, ?_⟩) (by assumption) ?_
      rotate_left
      · (intro w0 hSw; (try dsimp only at hSw); go_split_ands; go_simp; with_reducible rfl)
      try simp only [Act.put, List.setIfInBounds_toArray, List.set_cons_zero, List.set_cons_succ]
      refine wpAnyH_take (i := 15) (oi := { dst := some 38, op := Go.Op.fieldAddr 72 (Go.Operand.tmp 37) 0, type := 0, pos := "ref.go:126", after := #[{ on := 14, ground := Go.Ground.data }], guard := none }) (v := ?_) rfl (by kernel_rfl) (by kernel_rfl) (by kernel_rfl) (fun _ _ _ h => h) (Or.inl ⟨by rfl, ?_⟩) (by assumption) ?_
      rotate_left
      · (intro w0 hSw; (try dsimp only at hSw); go_split_ands; go_simp; with_reducible rfl)
      try simp only [Act.put, List.setIfInBounds_toArray, List.set_cons_zero, List.set_cons_succ]
      refine wpAnyH_take (i := 16) (oi := { dst := some 39, op := Go.Op.fieldAddr 58 (Go.Operand.tmp 38) 0, type := 0, pos := "ref.go:126", after := #[{ on := 15, ground := Go.Ground.data }], guard := none }) (v := ?_) rfl (by kernel_rfl) (by kernel_rfl) (by kernel_rfl) (fun _ _ _ h => h) (Or.inl ⟨by rfl, ?_⟩) (by assumption) ?_
      rotate_left
      · (intro w0 hSw; (try dsimp only at hSw); go_split_ands; go_simp; with_reducible rfl)
      try simp only [Act.put, List.setIfInBounds_toArray, List.set_cons_zero, List.set_cons_succ]
      refine wpAnyH_take (i := 17) (oi := { dst := some 40, op := Go.Op.load 35 (Go.Operand.tmp 39), type := 35, pos := "ref.go:126", after := #[{ on := 16, ground := Go.Ground.data }], guard := none }) (v := ?_) rfl (by kernel_rfl) (by kernel_rfl) (by kernel_rfl) (fun _ _ _ h => h) (Or.inl ⟨by rfl, ?_⟩) (by assumption) ?_
      rotate_left
      · (intro w0 hSw; (try dsimp only at hSw); go_split_ands; go_simp; with_reducible rfl)
      try simp only [Act.put, List.setIfInBounds_toArray, List.set_cons_zero, List.set_cons_succ]
      refine wpAnyH_take (i := 18) (oi := { dst := some 41, op := Go.Op.binOp Go.BinOp.sub 35 (Go.Operand.tmp 31) (Go.Operand.tmp 40) 35, type := 35, pos := "ref.go:126", after := #[{ on := 8, ground := Go.Ground.data }, { on := 17, ground := Go.Ground.data }], guard := none }) (v := ?_) rfl (by kernel_rfl) (by kernel_rfl) (by kernel_rfl) (fun _ _ _ h => h) (Or.inl ⟨by rfl, ?_⟩) (by assumption) ?_
      rotate_left
      · (intro w0 hSw; (try dsimp only at hSw); go_split_ands; go_simp; with_reducible rfl)
      try simp only [Act.put, List.setIfInBounds_toArray, List.set_cons_zero, List.set_cons_succ]
      refine wpAnyH_take (i := 19) (oi := { dst := some 42, op := Go.Op.move (Go.Operand.tmp 8), type := 3, pos := "ref.go:126", after := #[], guard := none }) (v := ?_) rfl (by kernel_rfl) (by kernel_rfl) (by kernel_rfl) (fun _ _ _ h => h) (Or.inl ⟨by rfl, ?_⟩) (by assumption) ?_
      rotate_left
      · (intro w0 hSw; (try dsimp only at hSw); go_split_ands; go_simp; with_reducible rfl)
      try simp only [Act.put, List.setIfInBounds_toArray, List.set_cons_zero, List.set_cons_succ]
      refine wpAnyH_take (i := 20) (oi := { dst := some 43, op := Go.Op.convert 3 35 (Go.Operand.tmp 42), type := 35, pos := "ref.go:126", after := #[{ on := 19, ground := Go.Ground.data }], guard := none }) (v := ?_) rfl (by kernel_rfl) (by kernel_rfl) (by kernel_rfl) (fun _ _ _ h => h) (Or.inl ⟨by rfl, ?_⟩) (by assumption) ?_
      rotate_left
      · (intro w0 hSw; (try dsimp only at hSw); go_split_ands; go_simp; with_reducible rfl)
      try simp only [Act.put, List.setIfInBounds_toArray, List.set_cons_zero, List.set_cons_succ]
      refine wpAnyH_take (i := 21) (oi := { dst := some 44, op := Go.Op.binOp Go.BinOp.add 35 (Go.Operand.tmp 41) (Go.Operand.tmp 43) 35, type := 35, pos := "ref.go:126", after := #[{ on := 18, ground := Go.Ground.data }, { on := 20, ground := Go.Ground.data }], guard := none }) (v := ?_) rfl (by kernel_rfl) (by kernel_rfl) (by kernel_rfl) (fun _ _ _ h => h) (Or.inl ⟨by rfl, ?_⟩) (by assumption) ?_
      rotate_left
      · (intro w0 hSw; (try dsimp only at hSw); go_split_ands; go_simp; with_reducible rfl)
      try simp only [Act.put, List.setIfInBounds_toArray, List.set_cons_zero, List.set_cons_succ]
      refine wpAnyH_take (i := 22) (oi := { dst := some 45, op := Go.Op.move (Go.Operand.tmp 2), type := 22, pos := "ref.go:126", after := #[], guard := none }) (v := ?_) rfl (by kernel_rfl) (by kernel_rfl) (by kernel_rfl) (fun _ _ _ h => h) (Or.inl ⟨by rfl, ?_⟩) (by assumption) ?_
      rotate_left
      · (intro w0 hSw; (try dsimp only at hSw); go_split_ands; go_simp; with_reducible rfl)
      try simp only [Act.put, List.setIfInBounds_toArray, List.set_cons_zero, List.set_cons_succ]
      refine wpAnyH_take (i := 23) (oi := { dst := some 46, op := Go.Op.move (Go.Operand.tmp 8), type := 3, pos := "ref.go:126", after := #[], guard := none }) (v := ?_) rfl (by kernel_rfl) (by kernel_rfl) (by kernel_rfl) (fun _ _ _ h => h) (Or.inl ⟨by rfl, ?_⟩) (by assumption) ?_
      rotate_left
      · (intro w0 hSw; (try dsimp only at hSw); go_split_ands; go_simp; with_reducible rfl)
      try simp only [Act.put, List.setIfInBounds_toArray, List.set_cons_zero, List.set_cons_succ]
      refine wpAnyH_take (i := 24) (oi := { dst := some 47, op := Go.Op.indexAddr 22 (Go.Operand.tmp 45) (Go.Operand.tmp 46), type := 0, pos := "ref.go:126", after := #[{ on := 22, ground := Go.Ground.data }, { on := 23, ground := Go.Ground.data }], guard := none }) (v := ?_) rfl (by kernel_rfl) (by kernel_rfl) (by kernel_rfl) (fun _ _ _ h => h) (Or.inl ⟨by rfl, ?_⟩) (by assumption) ?_
      rotate_left
      · (intro w0 hSw; (try dsimp only at hSw); go_split_ands; go_simp; with_reducible rfl)
      try simp only [Act.put, List.setIfInBounds_toArray, List.set_cons_zero, List.set_cons_succ]
      refine wpAnyH_take (i := 25) (oi := { dst := some 48, op := Go.Op.load 5 (Go.Operand.tmp 47), type := 5, pos := "ref.go:126", after := #[{ on := 24, ground := Go.Ground.data }], guard := none }) (v := ?_) rfl (by kernel_rfl) (by kernel_rfl) (by kernel_rfl) (fun _ _ _ h => h) (Or.inl ⟨by rfl, ?_⟩) (by assumption) ?_
      rotate_left
      · (intro w0 hSw; (try dsimp only at hSw); go_split_ands; go_simp; with_reducible rfl)
      try simp only [Act.put, List.setIfInBounds_toArray, List.set_cons_zero, List.set_cons_succ]
      refine wpAnyH_take (i := 26) (oi := { dst := some 49, op := Go.Op.indexAddr 22 (Go.Operand.tmp 30) (Go.Operand.tmp 44), type := 0, pos := "ref.go:126", after := #[{ on := 7, ground := Go.Ground.data }, { on := 21, ground := Go.Ground.data }, { on := 0, ground := Go.Ground.phase }, { on := 1, ground := Go.Ground.phase }, { on := 2, ground := Go.Ground.phase }, { on := 3, ground := Go.Ground.phase }, { on := 4, ground := Go.Ground.phase }, { on := 5, ground := Go.Ground.phase }, { on := 6, ground := Go.Ground.phase }, { on := 7, ground := Go.Ground.phase }, { on := 8, ground := Go.Ground.phase }, { on := 9, ground := Go.Ground.phase }, { on := 10, ground := Go.Ground.phase }, { on := 11, ground := Go.Ground.phase }, { on := 12, ground := Go.Ground.phase }, { on := 13, ground := Go.Ground.phase }, { on := 14, ground := Go.Ground.phase }, { on := 15, ground := Go.Ground.phase }, { on := 16, ground := Go.Ground.phase }, { on := 17, ground := Go.Ground.phase }, { on := 18, ground := Go.Ground.phase }, { on := 19, ground := Go.Ground.phase }, { on := 20, ground := Go.Ground.phase }, { on := 21, ground := Go.Ground.phase }, { on := 22, ground := Go.Ground.phase }, { on := 23, ground := Go.Ground.phase }, { on := 24, ground := Go.Ground.phase }, { on := 25, ground := Go.Ground.phase }], guard := none }) (v := ?_) rfl (by kernel_rfl) (by kernel_rfl) (by kernel_rfl) (fun _ _ _ h => h) (Or.inl ⟨by rfl, ?_⟩) (by assumption) ?_
      rotate_left
      · (intro w0 hSw; (try dsimp only at hSw); go_split_ands; go_simp; with_reducible rfl)
      try simp only [Act.put, List.setIfInBounds_toArray, List.set_cons_zero, List.set_cons_succ]
      refine wpAnyH_ready (rs := [27]) (by kernel_rfl) (by simp) ?_
      refine AllReadyH.cons (o := { dst := none, op := Go.Op.store 5 (Go.Operand.tmp 49) (Go.Operand.tmp 48), type := 0, pos := "ref.go:126", after := #[{ on := 26, ground := Go.Ground.data }, { on := 25, ground := Go.Ground.data }, { on := 0, ground := Go.Ground.phase }, { on := 1, ground := Go.Ground.phase }, { on := 2, ground := Go.Ground.phase }, { on := 3, ground := Go.Ground.phase }, { on := 4, ground := Go.Ground.phase }, { on := 5, ground := Go.Ground.phase }, { on := 6, ground := Go.Ground.phase }, { on := 7, ground := Go.Ground.phase }, { on := 8, ground := Go.Ground.phase }, { on := 9, ground := Go.Ground.phase }, { on := 10, ground := Go.Ground.phase }, { on := 11, ground := Go.Ground.phase }, { on := 12, ground := Go.Ground.phase }, { on := 13, ground := Go.Ground.phase }, { on := 14, ground := Go.Ground.phase }, { on := 15, ground := Go.Ground.phase }, { on := 16, ground := Go.Ground.phase }, { on := 17, ground := Go.Ground.phase }, { on := 18, ground := Go.Ground.phase }, { on := 19, ground := Go.Ground.phase }, { on := 20, ground := Go.Ground.phase }, { on := 21, ground := Go.Ground.phase }, { on := 22, ground := Go.Ground.phase }, { on := 23, ground := Go.Ground.phase }, { on := 24, ground := Go.Ground.phase }, { on := 25, ground := Go.Ground.phase }], guard := none }) rfl (fun K hK => ?_) AllReadyH.nil
      go_simp
      try simp only [hc, hf, hval, Bool.false_eq_true, if_false, Result.andThen_ok]
      try go_simp
      refine hK.out _ _ HSN.out (fun hHeld => ?_)
      clear hK K
      try simp only [Act.put, List.setIfInBounds_toArray, List.set_cons_zero, List.set_cons_succ]
      refine wpAnyH_done (by kernel_rfl) ?_ _
      clear hHeld
      go_wp2
      exact ⟨⟨j + 1, by omega, by go_num, HN, HKn2⟩, by simp [intOf]; omega⟩
    · obtain rfl : j = m := by omega
      go_wp2
      go_ret
      exact ⟨rfl, HM.out, HKp.out⟩
set_option maxRecDepth 100000 in
set_option maxHeartbeats 2000000 in
theorem rload_n (h : MeC 70 72 w FP p M v B C) {x m cs : Nat} {sp : Option Addr} (hx : x < 18446744073709551616) (hm : m < 9223372036854775808) (hno : ∀ k o, ¬ Hs M x m k o) :
    Calls Try.prog 9 #[.pointer (some ⟨p, 0, none⟩), .int .u64 x, .slice sp m cs] w fun e w' => e = .returned (.int .i64 8) ∧ Below w.heap.size w w' := by
  have HI := Lib.hid (in_n h hx (m := m) (by omega) hno)
  have hwm : IntKind.u64.wrap (m : Int) = (m : Int) := by rw [IntKind.wrap_u64]; omega
  clear h hno
  go_enter Try.func9, Try.ntmps9
  go_wp2_with (go_at_call 26; refine HI.out.mono ?_; rintro e w1 ⟨rfl, hb⟩; have HB := Lib.hid hb; clear hb)
  go_ret
  exact ⟨rfl, HB.out⟩
end
end Go.Proofs.Ytjcbhomfggjmhaa.Mm
