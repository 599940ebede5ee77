import Derived.Deep.CutBlock
import Derived.Deep.DeepCutAuto
import Derived.Deep.CutRange
import Derived.StringKeys
import Derived.Test.YtnbpgoacooddjaaLd
namespace Go.Proofs.Ytnbpgoacooddjaa.Lab
open Go.ChangeShapes Go.WideShapes Go.ChangeAt Go.RowKit Go.Maps
open Go.Proofs.Ytnbpgoacooddjaa.En
set_option linter.unusedVariables false
attribute [local go_sem] rowAt_drew rowAt_drewN
theorem law9 : Keyed Try.prog 9 := string_keyed Try.underlying9
theorem zero3 (w : World) : (zeroValue 3).run Try.prog w = .ok (.int .i64 0) w := by kernel_rfl
def ky (s : ByteArray) : Lit := .string s.data.toList
theorem ky_of {s : ByteArray} (h : s.size ≤ maxLen) : keyOf Try.prog 9 (.string s) = some (ky s) := Go.WideMaps.keyOf_string_mk Try.underlying9 h
/-- A label is laid. -/
def Lb.lab (S : Lb) (s : ByteArray) : Lb := { S with cnt := S.cnt + 1, D := S.D.put (ky s) (.lit (.int .i64 (S.n : Int))) }
theorem LbC.labd {w w1 : World} {FP : Nat → Prop} {p mb : Nat} {S : Lb} {v1 v3 : Value} {bx bY bz : Nat → Nat} {s : ByteArray} (h : LbC w FP p S mb v1 v3 bx bY bz) (ho : w1.ownsMap Try.prog 9 (plainElem (H := Unit) Try.prog 3) mb (S.cnt + 1) (S.D.put (ky s) (.lit (.int .i64 (S.n : Int))))) (hg : w.grownBy w1 (some mb)) :
    LbC w1 FP p (S.lab s) mb v1 v3 bx bY bz where
  row := (hg.block p (h.fl p h.fp) (fun e => by injection e with e; exact h.mp e.symm)).trans h.row
  ins := ownsRow_kept h.ins fun g hg' => hg.block g (h.fl g (h.f1 g hg')) (fun e => by injection e with e; exact h.m1 hg' e.symm)
  map := ho
  jmp := ownsRow_kept h.jmp fun g hg' => hg.block g (h.fl g (h.f3 g hg')) (fun e => by injection e with e; exact h.m3 hg' e.symm)
  box := fun k hkn => by
    obtain ⟨a, b, c, fa, fb, fc⟩ := h.box k hkn
    obtain ⟨na, nb, nc⟩ := h.bm hkn
    exact ⟨(hg.block _ (h.fl _ fa) (fun e => by injection e with e; exact na e)).trans a, (hg.block _ (h.fl _ fb) (fun e => by injection e with e; exact nb e)).trans b, (hg.block _ (h.fl _ fc) (fun e => by injection e with e; exact nc e)).trans c, fa, fb, fc⟩
  fp := h.fp
  fm := h.fm
  f1 := h.f1
  f3 := h.f3
  fl := fun k hf => Nat.lt_of_lt_of_le (h.fl k hf) hg.size
  nl := h.nl
set_option maxRecDepth 100000 in
set_option maxHeartbeats 4000000 in
theorem label_y (w : World) (FP : Nat → Prop) (p : Nat) (S : Lb) (mb : Nat) (v1 v3 : Value) (bx bY bz : Nat → Nat) (s : ByteArray) (hs : s.size ≤ maxLen) (h : LbC w FP p S mb v1 v3 bx bY bz) (hcn : S.cnt < 1000000) (hno : Maps.has S.D (ky s) = false) :
    Calls Try.prog 26 #[.pointer (some ⟨p, 0, none⟩), .string s] w fun e w' => e = .returned (.tuple #[]) ∧ LbC w' FP p (S.lab s) mb v1 v3 bx bY bz ∧ Kp FP w w' := by
  have H := Lib.hid h
  have c1 := rowAt_cell h.rw 1
  have c2 := rowAt_cell h.rw 2
  obtain ⟨a1, cp1, rfl, _⟩ := own_form h.ins
  simp only [cellsL] at c1 c2
  have hkey := ky_of hs
  clear h
  go_enter Try.func26, Try.ntmps26
  go_upto_region 3 with (at_lookup; refine wpList_lookup_own_ok_int _ rfl _ _ 146 rfl 9 3 .i64 law9 Try.underlying146 Try.underlying3 (zero3 _) mb S.cnt S.D rfl H.out.map _ (ky s) rfl hkey ?_; intro c hat hwc; rw [hno])
  have hV : LbC w.drew FP p S mb (.slice a1 S.n cp1) v3 bx bY bz := H.out.past (Below.refl _ _).drew
  obtain ⟨w1, hrun, hown, hg⟩ := hV.map.update law9 Try.underlying146 (by unfold maxLen; omega) hkey (val := .int .i64 (S.n : Int)) (plainElem_int Try.underlying3 (WalkArith.wf_i64 (by have := H.out.nl; omega)))
  have h1 := hV.labd hown hg
  have c1' := rowAt_cell h1.rw 1
  have c2' := rowAt_cell h1.rw 2
  simp only [cellsL, Lb.lab] at c1' c2'
  have hkk : Kp FP w w1 := Kp.trans (FP' := FP) (Kp.of_below (Below.refl _ _).drew) (Kp.of_grown hg (fun b hb => by injection hb with hb; subst hb; exact hV.fm)) (fun k hf => .inl hf)
  have H1 := Lib.hid h1
  have HK := Lib.hid hkk
  have c1d : w.drew.cell? ⟨p, 1, none⟩ = some (.slice a1 S.n cp1) := c1
  have c2d : w.drew.cell? ⟨p, 2, none⟩ = some (.map (some mb)) := c2
  clear hkk h1 hown hg hV c1 c2
  refine wp_region_held_drew (S := fun w' => w'.cell? ⟨p, 1, none⟩ = some (.slice a1 S.n cp1) ∧ w'.cell? ⟨p, 2, none⟩ = some (.map (some mb))) (by kernel_rfl) ⟨c1d, c2d⟩ (fun hHeld => ?_)
  refine wpAnyH_take (i := 0) (oi := { dst := some 18, op := Go.Op.move (Go.Operand.tmp 0), type := 43, pos := "lab.go:51", after := #[], guard := none }) (v := ?_) rfl (by kernel_rfl) (by kernel_rfl) (by kernel_rfl) (fun _ _ _ h => h) (Or.inl ⟨by rfl, ?_⟩) (by assumption) ?_
  rotate_left
  · (intro w0 hSw; (try dsimp only at hSw); go_split_ands; go_simp; with_reducible rfl)
  try simp only [Act.put, List.setIfInBounds_toArray, List.set_cons_zero, List.set_cons_succ]
  refine wpAnyH_take (i := 1) (oi := { dst := some 19, op := Go.Op.nilCheck (Go.Operand.tmp 18), type := 0, pos := "lab.go:51", after := #[{ on := 0, ground := Go.Ground.data }], guard := none }) (v := ?_) rfl (by kernel_rfl) (by kernel_rfl) (by kernel_rfl) (fun _ _ _ h => h) (Or.inl ⟨by rfl, ?_⟩) (by assumption) ?_
  rotate_left
  · (intro w0 hSw; (try dsimp only at hSw); go_split_ands; go_simp; with_reducible rfl)
  try simp only [Act.put, List.setIfInBounds_toArray, List.set_cons_zero, List.set_cons_succ]
  refine wpAnyH_take (i := 2) (oi := { dst := some 20, op := Go.Op.fieldAddr 149 (Go.Operand.tmp 19) 2, type := 0, pos := "lab.go:51", after := #[{ on := 1, ground := Go.Ground.data }], guard := none }) (v := ?_) rfl (by kernel_rfl) (by kernel_rfl) (by kernel_rfl) (fun _ _ _ h => h) (Or.inl ⟨by rfl, ?_⟩) (by assumption) ?_
  rotate_left
  · (intro w0 hSw; (try dsimp only at hSw); go_split_ands; go_simp; with_reducible rfl)
  try simp only [Act.put, List.setIfInBounds_toArray, List.set_cons_zero, List.set_cons_succ]
  refine wpAnyH_take (i := 3) (oi := { dst := some 21, op := Go.Op.load 146 (Go.Operand.tmp 20), type := 146, pos := "lab.go:51", after := #[{ on := 2, ground := Go.Ground.data }], guard := none }) (v := ?_) rfl (by kernel_rfl) (by kernel_rfl) (by kernel_rfl) (fun _ _ _ h => h) (Or.inl ⟨by rfl, ?_⟩) (by assumption) ?_
  rotate_left
  · (intro w0 hSw; (try dsimp only at hSw); go_split_ands; go_simp; with_reducible rfl)
  try simp only [Act.put, List.setIfInBounds_toArray, List.set_cons_zero, List.set_cons_succ]
  refine wpAnyH_take (i := 4) (oi := { dst := some 22, op := Go.Op.move (Go.Operand.tmp 1), type := 9, pos := "lab.go:51", after := #[], guard := none }) (v := ?_) rfl (by kernel_rfl) (by kernel_rfl) (by kernel_rfl) (fun _ _ _ h => h) (Or.inl ⟨by rfl, ?_⟩) (by assumption) ?_
  rotate_left
  · (intro w0 hSw; (try dsimp only at hSw); go_split_ands; go_simp; with_reducible rfl)
  try simp only [Act.put, List.setIfInBounds_toArray, List.set_cons_zero, List.set_cons_succ]
  refine wpAnyH_take (i := 5) (oi := { dst := some 23, op := Go.Op.move (Go.Operand.tmp 0), type := 43, pos := "lab.go:51", after := #[], guard := none }) (v := ?_) rfl (by kernel_rfl) (by kernel_rfl) (by kernel_rfl) (fun _ _ _ h => h) (Or.inl ⟨by rfl, ?_⟩) (by assumption) ?_
  rotate_left
  · (intro w0 hSw; (try dsimp only at hSw); go_split_ands; go_simp; with_reducible rfl)
  try simp only [Act.put, List.setIfInBounds_toArray, List.set_cons_zero, List.set_cons_succ]
  refine wpAnyH_take (i := 6) (oi := { dst := some 24, op := Go.Op.nilCheck (Go.Operand.tmp 23), type := 0, pos := "lab.go:51", after := #[{ on := 5, ground := Go.Ground.data }], guard := none }) (v := ?_) rfl (by kernel_rfl) (by kernel_rfl) (by kernel_rfl) (fun _ _ _ h => h) (Or.inl ⟨by rfl, ?_⟩) (by assumption) ?_
  rotate_left
  · (intro w0 hSw; (try dsimp only at hSw); go_split_ands; go_simp; with_reducible rfl)
  try simp only [Act.put, List.setIfInBounds_toArray, List.set_cons_zero, List.set_cons_succ]
  refine wpAnyH_take (i := 7) (oi := { dst := some 25, op := Go.Op.fieldAddr 149 (Go.Operand.tmp 24) 1, type := 0, pos := "lab.go:51", after := #[{ on := 6, ground := Go.Ground.data }], guard := none }) (v := ?_) rfl (by kernel_rfl) (by kernel_rfl) (by kernel_rfl) (fun _ _ _ h => h) (Or.inl ⟨by rfl, ?_⟩) (by assumption) ?_
  rotate_left
  · (intro w0 hSw; (try dsimp only at hSw); go_split_ands; go_simp; with_reducible rfl)
  try simp only [Act.put, List.setIfInBounds_toArray, List.set_cons_zero, List.set_cons_succ]
  refine wpAnyH_take (i := 8) (oi := { dst := some 26, op := Go.Op.load 63 (Go.Operand.tmp 25), type := 63, pos := "lab.go:51", after := #[{ on := 7, ground := Go.Ground.data }], guard := none }) (v := ?_) rfl (by kernel_rfl) (by kernel_rfl) (by kernel_rfl) (fun _ _ _ h => h) (Or.inl ⟨by rfl, ?_⟩) (by assumption) ?_
  rotate_left
  · (intro w0 hSw; (try dsimp only at hSw); go_split_ands; go_simp; with_reducible rfl)
  try simp only [Act.put, List.setIfInBounds_toArray, List.set_cons_zero, List.set_cons_succ]
  refine wpAnyH_take (i := 9) (oi := { dst := some 27, op := Go.Op.call { callee := Go.Callee.builtin Go.Builtin.len, args := #[Go.Operand.tmp 26], argTypes := #[63] }, type := 3, pos := "lab.go:51", after := #[{ on := 8, ground := Go.Ground.data }], guard := none }) (v := ?_) rfl (by kernel_rfl) (by kernel_rfl) (by kernel_rfl) (fun _ _ _ h => h) (Or.inl ⟨by rfl, ?_⟩) (by assumption) ?_
  rotate_left
  · (intro w0 hSw; (try dsimp only at hSw); go_split_ands; go_simp; with_reducible rfl)
  try simp only [Act.put, List.setIfInBounds_toArray, List.set_cons_zero, List.set_cons_succ]
  refine wpAnyH_ready (rs := [10]) (by kernel_rfl) (by simp) ?_
  refine AllReadyH.cons (o := { dst := none, op := Go.Op.mapUpdate 146 (Go.Operand.tmp 21) (Go.Operand.tmp 22) (Go.Operand.tmp 27), type := 0, pos := "lab.go:51", after := #[{ on := 3, ground := Go.Ground.data }, { on := 4, ground := Go.Ground.data }, { on := 9, ground := Go.Ground.data }, { on := 0, ground := Go.Ground.phase }, { on := 1, ground := Go.Ground.phase }, { on := 2, ground := Go.Ground.phase }, { on := 3, ground := Go.Ground.phase }, { on := 4, ground := Go.Ground.phase }, { on := 5, ground := Go.Ground.phase }, { on := 6, ground := Go.Ground.phase }, { on := 7, ground := Go.Ground.phase }, { on := 8, ground := Go.Ground.phase }, { on := 9, ground := Go.Ground.phase }], guard := none }) rfl (fun K hK => ?_) AllReadyH.nil
  go_simp
  refine hK.out _ _ ⟨c1', c2'⟩ (fun hHeld => ?_)
  clear hK K
  try simp only [Act.put, List.setIfInBounds_toArray, List.set_cons_zero, List.set_cons_succ]
  refine wpAnyH_done (by kernel_rfl) ?_ _
  clear hHeld
  go_end0
  exact ⟨rfl, H1.out, HK.out⟩
set_option maxRecDepth 100000 in
set_option maxHeartbeats 4000000 in
theorem label_n (w : World) (FP : Nat → Prop) (p : Nat) (S : Lb) (mb : Nat) (v1 v3 : Value) (bx bY bz : Nat → Nat) (s : ByteArray) (hs : s.size ≤ maxLen) (h : LbC w FP p S mb v1 v3 bx bY bz) (hno : Maps.has S.D (ky s) = true) :
    Calls Try.prog 26 #[.pointer (some ⟨p, 0, none⟩), .string s] w fun e w' => e = .returned (.tuple #[]) ∧ LbC w' FP p (S.fail 24) mb v1 v3 bx bY bz ∧ Kp FP w w' := by
  have H := Lib.hid h
  have c2 := rowAt_cell h.rw 2
  simp only [cellsL] at c2
  have hkey := ky_of hs
  clear h
  go_enter Try.func26, Try.ntmps26
  go_wp2_with (first | (at_lookup; refine wpList_lookup_own_ok_int _ rfl _ _ 146 rfl 9 3 .i64 law9 Try.underlying146 Try.underlying3 (zero3 _) mb S.cnt S.D rfl H.out.map _ (ky s) rfl hkey ?_; intro c hat hwc; rw [hno]) | (go_at_call 80; refine (fail_c _ FP p S mb v1 v3 bx bY bz 24 H.out).mono ?_; rintro e w2 ⟨rfl, hc2, hk2⟩; have HC2 := Lib.hid hc2; have HK2 := Lib.hid hk2; clear hc2 hk2))
  refine bodyPost_ret (results_none rfl _ _ _) rfl ⟨rfl, HC2.out, HK2.out⟩
set_option maxRecDepth 100000 in
set_option maxHeartbeats 4000000 in
theorem where_y (w : World) (FP : Nat → Prop) (p : Nat) (S : Lb) (mb : Nat) (v1 v3 : Value) (bx bY bz : Nat → Nat) (s : ByteArray) (hs : s.size ≤ maxLen) (h : LbC w FP p S mb v1 v3 bx bY bz) (hno : Maps.has S.D (ky s) = true) (k : Nat) (hk : k ≤ 1000000) (hat0 : S.D.atKey (ky s) (.lit (.int .i64 0)) = .lit (.int .i64 (k : Int))) :
    Calls Try.prog 30 #[.pointer (some ⟨p, 0, none⟩), .string s] w fun e w' => e = .returned (.tuple #[.int .u64 (placeS S.at0 k), .bool true]) ∧ w = w' := by
  have H := Lib.hid h
  have c2 := rowAt_cell h.rw 2
  simp only [cellsL] at c2
  have hkey := ky_of hs
  clear h
  go_enter Try.func30, Try.ntmps30
  go_wp2_with (first | (at_lookup; refine wpList_lookup_own_ok_int _ rfl _ _ 146 rfl 9 3 .i64 law9 Try.underlying146 Try.underlying3 (zero3 _) mb S.cnt S.D rfl H.out.map _ (ky s) rfl hkey ?_; intro c hat hwc; rw [hno]; obtain rfl : c = (k : Int) := (by rw [hat0] at hat; injection hat with hat; injection hat with _ hat; exact hat.symm)) | (go_at_call 105; refine (place_c _ FP p S mb v1 v3 bx bY bz k hk H.out).mono ?_; rintro e w2 ⟨rfl, rfl⟩))
  go_ret2
  exact ⟨rfl, rfl⟩
set_option maxRecDepth 100000 in
set_option maxHeartbeats 4000000 in
theorem where_n (w : World) (FP : Nat → Prop) (p : Nat) (S : Lb) (mb : Nat) (v1 v3 : Value) (bx bY bz : Nat → Nat) (s : ByteArray) (hs : s.size ≤ maxLen) (h : LbC w FP p S mb v1 v3 bx bY bz) (hno : Maps.has S.D (ky s) = false) :
    Calls Try.prog 30 #[.pointer (some ⟨p, 0, none⟩), .string s] w fun e w' => e = .returned (.tuple #[.int .u64 0, .bool false]) ∧ w = w' := by
  have H := Lib.hid h
  have c2 := rowAt_cell h.rw 2
  simp only [cellsL] at c2
  have hkey := ky_of hs
  clear h
  go_enter Try.func30, Try.ntmps30
  go_wp2_with (at_lookup; refine wpList_lookup_own_ok_int _ rfl _ _ 146 rfl 9 3 .i64 law9 Try.underlying146 Try.underlying3 (zero3 _) mb S.cnt S.D rfl H.out.map _ (ky s) rfl hkey ?_; intro c hat hwc; rw [hno])
  go_ret2
  exact ⟨rfl, rfl⟩
end Go.Proofs.Ytnbpgoacooddjaa.Lab
