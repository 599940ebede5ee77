import Derived.Test.YtjcbhomfggjmhaaIb
import Derived.Deep.CutBlock
import Derived.Deep.DeepCutAuto
import Derived.Deep.CutRange
namespace Go.Proofs.Ytjcbhomfggjmhaa.Mm
open Go.ChangeShapes Go.WideShapes Go.ChangeAt Go.RowKit Go.Maps
set_option linter.unusedVariables false
section
variable {w : World} {lo : Nat → Prop} {p : Nat} {L : Pl} {V : Nat → Value} {S : Sd}
theorem SdC.gb {w' : World} {b : Nat} (h : SdC w lo p L V S) (hg : w.grownBy w' (some b)) (hb : ¬ lo b) : Sv lo w w' := (Sv.refl lo w).grown hg (fun k hk => by injection hk with hk; exact hk ▸ hb)
def isC (S : Sd) (c : Int) : Prop := 0 ≤ c ∧ c < S.n
instance (S : Sd) (c : Int) : Decidable (isC S c) := inferInstanceAs (Decidable (_ ∧ _))
theorem isCore_c (h : SdC w lo p L V S) (c : Int) : Calls Try.prog 55 #[.pointer (some ⟨p, 0, none⟩), .int .i64 c] w fun e w' => e = .returned (.bool (decide (isC S c))) ∧ w' = w := by
  obtain ⟨_, _, _, _, c4⟩ := h.cells
  clear h
  by_cases h0 : 0 ≤ c
  · have d0 : decide ((0 : Int) ≤ c) = true := decide_eq_true h0
    by_cases h1 : c < S.n
    · have d1 : decide (c < (S.n : Int)) = true := decide_eq_true h1
      have HD : Hid (decide (isC S c) = true) := Lib.hid (decide_eq_true ⟨h0, h1⟩)
      go_enter Try.func55, Try.ntmps55
      go_wp2
      go_ret
      exact ⟨by rw [HD.out]; rfl, rfl⟩
    · have d1 : decide (c < (S.n : Int)) = false := decide_eq_false h1
      have HD : Hid (decide (isC S c) = false) := Lib.hid (decide_eq_false fun h => h1 h.2)
      go_enter Try.func55, Try.ntmps55
      go_wp2
      go_ret
      exact ⟨by rw [HD.out]; rfl, rfl⟩
  · have d0 : decide ((0 : Int) ≤ c) = false := decide_eq_false h0
    have HD : Hid (decide (isC S c) = false) := Lib.hid (decide_eq_false fun h => h0 h.1)
    go_enter Try.func55, Try.ntmps55
    go_wp2
    go_ret
    exact ⟨by rw [HD.out]; rfl, rfl⟩
theorem told_c (h : SdC w lo p L V S) {x : Nat} (hx : x < 18446744073709551616) : Calls Try.prog 46 #[.pointer (some ⟨p, 0, none⟩), .int .u64 x] w fun e w' => e = .returned (.tuple #[.int .u32 ((wd S.T x).1 : Nat), .int .i64 ((wd S.T x).2 : Nat)]) ∧ ∃ q, w' = w.drewN q := by
  obtain ⟨_, c1, _, _, _⟩ := h.cells
  have HW := Lib.hid (word_cfg h.told h.cfg hx)
  clear h
  go_enter Try.func46, Try.ntmps46
  go_wp2_with (go_at_call 68; refine HW.out.mono ?_; rintro e w1 ⟨rfl, q, rfl⟩)
  refine bodyPost_ret (v := .tuple #[.int .u32 ((wd S.T x).1 : Nat), .int .i64 ((wd S.T x).2 : Nat)]) (by simp [results, Try.results46, go_sem]) rfl ⟨rfl, _, rfl⟩
/-- What keeps a core from a place. -/
def rdy (S : Sd) (c : Int) (x : Nat) : Nat := if isC S c then (wd S.T x).2 else 1
theorem ready_c (h : SdC w lo p L V S) (c : Int) {x : Nat} (hx : x < 18446744073709551616) : Calls Try.prog 51 #[.pointer (some ⟨p, 0, none⟩), .int .i64 c, .int .u64 x] w fun e w' => e = .returned (.int .i64 (rdy S c x : Nat)) ∧ ∃ q, w' = w.drewN q := by
  have HI := Lib.hid (isCore_c h c)
  have HT := Lib.hid (told_c h hx)
  clear h
  by_cases hc : isC S c
  · have HR : Hid (rdy S c x = (wd S.T x).2) := Lib.hid (if_pos hc)
    have d : decide (isC S c) = true := decide_eq_true hc
    rw [d] at HI
    clear hc d
    go_enter Try.func51, Try.ntmps51
    go_wp2_with (first | (go_at_call 55; refine HI.out.mono ?_; rintro e w1 ⟨rfl, rfl⟩) | (go_at_call 46; refine HT.out.mono ?_; rintro e w2 ⟨rfl, q', rfl⟩))
    go_ret
    exact ⟨by rw [HR.out]; rfl, _, rfl⟩
  · have HR : Hid (rdy S c x = 1) := Lib.hid (if_neg hc)
    have d : decide (isC S c) = false := decide_eq_false hc
    rw [d] at HI
    clear hc d
    go_enter Try.func51, Try.ntmps51
    go_wp2_with (go_at_call 55; refine HI.out.mono ?_; rintro e w1 ⟨rfl, rfl⟩)
    go_ret
    exact ⟨by rw [HR.out]; rfl, 0, rfl⟩
/-! ### the cache, and what is held ahead -/
theorem cached_c (h : SdC w lo p L V S) {c : Int} {x : Nat} (hk : Okk c x) : Calls Try.prog 42 #[.pointer (some ⟨p, 0, none⟩), .int .i64 c, .int .u64 x] w fun e w' => e = .returned (.tuple #[.int .u32 ((S.C c x).getD 0 : Nat), .bool (S.C c x).isSome]) ∧ w' = w := by
  obtain ⟨_, _, c2, _, _⟩ := h.cells
  have HM := Lib.hid h.mc
  clear h
  go_enter Try.func42, Try.ntmps42
  go_wp2_with (at_lookup; refine wpList_look rfl _ _ rfl rfl rfl HM.out hk ?_)
  refine bodyPost_ret (v := .tuple #[.int .u32 ((S.C c x).getD 0 : Nat), .bool (S.C c x).isSome]) (by simp [results, Try.results42, go_sem]) rfl ⟨rfl, rfl⟩
theorem held_c (h : SdC w lo p L V S) {c : Int} {x : Nat} (hk : Okk c x) : Calls Try.prog 44 #[.pointer (some ⟨p, 0, none⟩), .int .i64 c, .int .u64 x] w fun e w' => e = .returned (.tuple #[.int .u32 ((S.H c x).getD 0 : Nat), .bool (S.H c x).isSome]) ∧ w' = w := by
  obtain ⟨_, _, _, c3, _⟩ := h.cells
  have HM := Lib.hid h.mh
  clear h
  go_enter Try.func44, Try.ntmps44
  go_wp2_with (at_lookup; refine wpList_look rfl _ _ rfl rfl rfl HM.out hk ?_)
  refine bodyPost_ret (v := .tuple #[.int .u32 ((S.H c x).getD 0 : Nat), .bool (S.H c x).isSome]) (by simp [results, Try.results44, go_sem]) rfl ⟨rfl, rfl⟩
theorem evict_c (h : SdC w lo p L V S) {c : Int} {x : Nat} (hk : Okk c x) : Calls Try.prog 33 #[.pointer (some ⟨p, 0, none⟩), .int .i64 c, .int .u64 x] w fun e w' => e = .returned (.bool (S.C c x).isSome) ∧ SdC w' lo p L V { S with C := upd S.C c x none } ∧ Sv lo w w' := by
  obtain ⟨_, _, c2, _, _⟩ := h.cells
  have H := Lib.hid h
  have HM := Lib.hid h.mc
  clear h
  go_enter Try.func33, Try.ntmps33
  go_wp2_with (first
    | (at_lookup; refine wpList_look rfl _ _ rfl rfl rfl HM.out hk ?_)
    | (at_delete; refine wpList_del rfl _ _ rfl rfl rfl HM.out hk ?_; intro w1 hm hg; have HM1 := Lib.hid hm; have HG := Lib.hid hg; clear hm hg))
  go_ret
  exact ⟨rfl, H.out.setC (Nat.le_refl _) HM1.out HG.out, H.out.gb HG.out H.out.lc⟩
/-! ### Fill, Refill, Ahead, Fetch -/
def Sd.val (S : Sd) (c : Int) (x : Nat) : Nat := (S.C c x).getD (wd S.T x).1
def Sd.fill (S : Sd) (c : Int) (x : Nat) : Sd := match S.C c x with
  | some _ => S
  | none => { S with C := upd S.C c x (some (wd S.T x).1), N := S.N + 1 }
theorem fill_N (S : Sd) (c : Int) (x : Nat) : (S.fill c x).N ≤ S.N + 1 := by
  unfold Sd.fill
  split
  · omega
  · exact Nat.le_refl _
theorem fill_H (S : Sd) (c : Int) (x : Nat) : (S.fill c x).H = S.H ∧ (S.fill c x).T = S.T ∧ (S.fill c x).n = S.n ∧ (S.fill c x).Wt = S.Wt := by
  unfold Sd.fill
  split <;> exact ⟨rfl, rfl, rfl, rfl⟩
set_option maxHeartbeats 1000000 in
theorem fill_c (h : SdC w lo p L V S) {c : Int} {x : Nat} (hk : Okk c x) (hN : S.N < 1000000000) : Calls Try.prog 52 #[.pointer (some ⟨p, 0, none⟩), .int .i64 c, .int .u64 x] w fun e w' => e = .returned (.int .u32 (S.val c x : Nat)) ∧ SdC w' lo p L V (S.fill c x) ∧ Sv lo w w' := by
  obtain ⟨_, _, c2, _, _⟩ := h.cells
  have H := Lib.hid h
  have HM := Lib.hid h.mc
  have HT := Lib.hid (told_c h hk.2.2)
  have HW := Lib.hid (wd_lt h.told.ok.byt x)
  clear h
  cases hcx : S.C c x with
  | some y =>
    have HL : Hid ((S.C c x).getD 0 = y ∧ (S.C c x).isSome = true) := Lib.hid (by rw [hcx]; exact ⟨rfl, rfl⟩)
    have HV : Hid (S.val c x = y ∧ S.fill c x = S) := Lib.hid (by unfold Sd.val Sd.fill; rw [hcx]; exact ⟨rfl, rfl⟩)
    clear hcx
    go_enter Try.func52, Try.ntmps52
    go_wp2_with (at_lookup; refine wpList_look rfl _ _ rfl rfl rfl HM.out hk ?_; rw [HL.out.1, HL.out.2])
    go_ret
    exact ⟨by rw [HV.out.1]; rfl, by rw [HV.out.2]; exact H.out, Sv.refl _ _⟩
  | none =>
    have HL : Hid ((S.C c x).getD 0 = 0 ∧ (S.C c x).isSome = false) := Lib.hid (by rw [hcx]; exact ⟨rfl, rfl⟩)
    have HV : Hid (S.val c x = (wd S.T x).1 ∧ S.fill c x = { S with C := upd S.C c x (some (wd S.T x).1), N := S.N + 1 }) := Lib.hid (by unfold Sd.val Sd.fill; rw [hcx]; exact ⟨rfl, rfl⟩)
    clear hcx
    go_enter Try.func52, Try.ntmps52
    go_wp2_with (first
      | (at_lookup; refine wpList_look rfl _ _ rfl rfl rfl HM.out hk ?_; rw [HL.out.1, HL.out.2])
      | (go_at_call 46; refine HT.out.mono ?_; rintro e w1 ⟨rfl, q, rfl⟩; have H1 := Lib.hid (H.out.past (below_drewN (Below.refl _ _) q)); have HM1 := Lib.hid H1.out.mc)
      | (at_mapUpdate; refine wpList_put rfl _ _ _ rfl rfl rfl rfl HM1.out (by unfold maxLen; omega) hk HW.out ?_; intro w2 hm hg; have HS2 := Lib.hid (H1.out.setC (Nat.le_succ _) hm hg); have HB2 := Lib.hid (H1.out.gb hg H1.out.lc); clear hm hg))
    go_ret
    exact ⟨by rw [HV.out.1]; rfl, by rw [HV.out.2]; exact HS2.out, (Sv.bd q).trans HB2.out⟩
theorem val_lt (h : SdC w lo p L V S) {c : Int} {x : Nat} (hk : Okk c x) : S.val c x < 4294967296 := by
  unfold Sd.val
  cases hcx : S.C c x with
  | some y => exact (h.mc.look hk).1 y hcx
  | none => exact wd_lt h.told.ok.byt x
def Sd.refill (S : Sd) (c : Int) (x : Nat) : Sd := if rdy S c x = 0 then S.fill c x else S
theorem refill_c (h : SdC w lo p L V S) {c : Int} {x : Nat} (hk : Okk c x) (hN : S.N < 1000000000) : Calls Try.prog 14 #[.pointer (some ⟨p, 0, none⟩), .int .i64 c, .int .u64 x] w fun e w' => e = .returned (.int .i64 (rdy S c x : Nat)) ∧ SdC w' lo p L V (S.refill c x) ∧ Sv lo w w' := by
  have H := Lib.hid h
  have HR := Lib.hid (ready_c h c hk.2.2)
  clear h
  by_cases h0 : rdy S c x = 0
  · have HV : Hid (S.refill c x = S.fill c x) := Lib.hid (if_pos h0)
    have HZ : Hid (rdy S c x = 0) := Lib.hid h0
    rw [h0] at HR
    clear h0
    go_enter Try.func14, Try.ntmps14
    go_wp2_with (first
      | (go_at_call 51; refine HR.out.mono ?_; rintro e w1 ⟨rfl, q, rfl⟩; have H1 := Lib.hid (H.out.past (below_drewN (Below.refl _ _) q)))
      | (go_at_call 52; refine (fill_c H1.out hk hN).mono ?_; rintro e w2 ⟨rfl, hs2, hb2⟩; have HS2 := Lib.hid hs2; have HB2 := Lib.hid hb2; clear hs2 hb2))
    go_ret
    exact ⟨by rw [HZ.out]; rfl, by rw [HV.out]; exact HS2.out, (Sv.bd q).trans HB2.out⟩
  · have HV : Hid (S.refill c x = S) := Lib.hid (if_neg h0)
    have d : decide ((rdy S c x : Int) = 0) = false := decide_eq_false (by omega)
    have d2 : ((rdy S c x : Int) == 0) = false := by simpa using h0
    have d3 : ((rdy S c x : Int) != 0) = true := by simpa using h0
    clear h0
    go_enter Try.func14, Try.ntmps14
    go_wp2_with (go_at_call 51; refine HR.out.mono ?_; rintro e w1 ⟨rfl, q, rfl⟩; have H1 := Lib.hid (H.out.past (below_drewN (Below.refl _ _) q)))
    go_ret
    exact ⟨rfl, by rw [HV.out]; exact H1.out, Sv.bd q⟩
def Sd.ahead (S : Sd) (c : Int) (x : Nat) : Sd := if rdy S c x = 0 then { S.fill c x with H := upd (S.fill c x).H c x (some (S.val c x)), N := (S.fill c x).N + 1 } else S
set_option maxRecDepth 100000 in
set_option maxHeartbeats 4000000 in
theorem ahead_c (h : SdC w lo p L V S) {c : Int} {x : Nat} (hk : Okk c x) (hN : S.N < 1000000000) : Calls Try.prog 30 #[.pointer (some ⟨p, 0, none⟩), .int .i64 c, .int .u64 x] w fun e w' => e = .returned (.int .i64 (rdy S c x : Nat)) ∧ SdC w' lo p L V (S.ahead c x) ∧ Sv lo w w' := by
  have H := Lib.hid h
  have HR := Lib.hid (ready_c h c hk.2.2)
  have HVL := Lib.hid (val_lt h hk)
  clear h
  by_cases h0 : rdy S c x = 0
  · have HV : Hid (S.ahead c x = { S.fill c x with H := upd (S.fill c x).H c x (some (S.val c x)), N := (S.fill c x).N + 1 }) := Lib.hid (if_pos h0)
    have HZ : Hid (rdy S c x = 0) := Lib.hid h0
    rw [h0] at HR
    clear h0
    go_enter Try.func30, Try.ntmps30
    go_upto_region 4 with (go_at_call 51; refine HR.out.mono ?_; rintro e w1' ⟨rfl, q, rfl⟩; have HS1 := Lib.hid (H.out.past (below_drewN (Below.refl _ _) q)); have HB1 : Hid (Sv lo w (w.drewN q)) := Lib.hid (Sv.bd q); generalize w.drewN q = w1 at HS1 HB1 ⊢)
    have hbd : Below w1.heap.size w1 w1.drew := below_drewN (Below.refl _ _) 1
    have HSd := Lib.hid (HS1.out.past hbd)
    have HBd : Hid (Sv lo w w1.drew) := Lib.hid (HB1.out.trans (Sv.of hbd))
    have HSS := Lib.hid HSd.out.cells.2.2.2.1
    clear hbd
    refine wp_region_held_drew (S := fun w' => w'.cell? ⟨p, 3, none⟩ = some (.map (some L.bh))) (by kernel_rfl) HSS.out (fun hHeld => ?_)
    generalize w1.drew = V1 at HSd HBd HSS hHeld ⊢
    refine wpAnyH_take (i := 0) (oi := { dst := some 15, op := Go.Op.move (Go.Operand.tmp 0), type := 37, pos := "icache.go:95", after := #[], guard := none }) (v := ?_) rfl (by kernel_rfl) (by kernel_rfl) (by kernel_rfl) (fun _ _ _ h => h) (Or.inl ⟨by rfl, ?_⟩) (by assumption) ?_
    rotate_left
    · (intro w0 hSw; (try dsimp only at hSw); go_split_ands; go_simp; with_reducible rfl)
    try simp only [Act.put, List.setIfInBounds_toArray, List.set_cons_zero, List.set_cons_succ]
    refine wpAnyH_take (i := 1) (oi := { dst := some 16, op := Go.Op.nilCheck (Go.Operand.tmp 15), type := 0, pos := "icache.go:95", after := #[{ on := 0, ground := Go.Ground.data }], guard := none }) (v := ?_) rfl (by kernel_rfl) (by kernel_rfl) (by kernel_rfl) (fun _ _ _ h => h) (Or.inl ⟨by rfl, ?_⟩) (by assumption) ?_
    rotate_left
    · (intro w0 hSw; (try dsimp only at hSw); go_split_ands; go_simp; with_reducible rfl)
    try simp only [Act.put, List.setIfInBounds_toArray, List.set_cons_zero, List.set_cons_succ]
    refine wpAnyH_take (i := 2) (oi := { dst := some 17, op := Go.Op.fieldAddr 80 (Go.Operand.tmp 16) 3, type := 0, pos := "icache.go:95", after := #[{ on := 1, ground := Go.Ground.data }], guard := none }) (v := ?_) rfl (by kernel_rfl) (by kernel_rfl) (by kernel_rfl) (fun _ _ _ h => h) (Or.inl ⟨by rfl, ?_⟩) (by assumption) ?_
    rotate_left
    · (intro w0 hSw; (try dsimp only at hSw); go_split_ands; go_simp; with_reducible rfl)
    try simp only [Act.put, List.setIfInBounds_toArray, List.set_cons_zero, List.set_cons_succ]
    refine wpAnyH_take (i := 3) (oi := { dst := some 18, op := Go.Op.load 77 (Go.Operand.tmp 17), type := 77, pos := "icache.go:95", after := #[{ on := 2, ground := Go.Ground.data }], guard := none }) (v := ?_) rfl (by kernel_rfl) (by kernel_rfl) (by kernel_rfl) (fun _ _ _ h => h) (Or.inl ⟨by rfl, ?_⟩) (by assumption) ?_
    rotate_left
    · (intro w0 hSw; (try dsimp only at hSw); go_split_ands; go_simp; with_reducible rfl)
    try simp only [Act.put, List.setIfInBounds_toArray, List.set_cons_zero, List.set_cons_succ]
    refine wpAnyH_take (i := 4) (oi := { dst := some 19, op := Go.Op.move (Go.Operand.tmp 1), type := 3, pos := "icache.go:95", after := #[], guard := none }) (v := ?_) rfl (by kernel_rfl) (by kernel_rfl) (by kernel_rfl) (fun _ _ _ h => h) (Or.inl ⟨by rfl, ?_⟩) (by assumption) ?_
    rotate_left
    · (intro w0 hSw; (try dsimp only at hSw); go_split_ands; go_simp; with_reducible rfl)
    try simp only [Act.put, List.setIfInBounds_toArray, List.set_cons_zero, List.set_cons_succ]
    refine wpAnyH_take (i := 5) (oi := { dst := some 20, op := Go.Op.move (Go.Operand.tmp 2), type := 35, pos := "icache.go:95", after := #[], guard := none }) (v := ?_) rfl (by kernel_rfl) (by kernel_rfl) (by kernel_rfl) (fun _ _ _ h => h) (Or.inl ⟨by rfl, ?_⟩) (by assumption) ?_
    rotate_left
    · (intro w0 hSw; (try dsimp only at hSw); go_split_ands; go_simp; with_reducible rfl)
    try simp only [Act.put, List.setIfInBounds_toArray, List.set_cons_zero, List.set_cons_succ]
    refine wpAnyH_take (i := 6) (oi := { dst := some 21, op := Go.Op.build 100 #[(0, Go.Operand.tmp 19), (1, Go.Operand.tmp 20)], type := 100, pos := "icache.go:95", after := #[{ on := 4, ground := Go.Ground.data }, { on := 5, ground := Go.Ground.data }], guard := none }) (v := ?_) rfl (by kernel_rfl) (by kernel_rfl) (by kernel_rfl) (fun _ _ _ h => h) (Or.inl ⟨by rfl, ?_⟩) (by assumption) ?_
    rotate_left
    · (intro w0 hSw; (try dsimp only at hSw); go_split_ands; go_simp; with_reducible rfl)
    try simp only [Act.put, List.setIfInBounds_toArray, List.set_cons_zero, List.set_cons_succ]
    refine wpAnyH_take (i := 7) (oi := { dst := some 22, op := Go.Op.move (Go.Operand.tmp 0), type := 37, pos := "icache.go:95", after := #[], guard := none }) (v := ?_) rfl (by kernel_rfl) (by kernel_rfl) (by kernel_rfl) (fun _ _ _ h => h) (Or.inl ⟨by rfl, ?_⟩) (by assumption) ?_
    rotate_left
    · (intro w0 hSw; (try dsimp only at hSw); go_split_ands; go_simp; with_reducible rfl)
    try simp only [Act.put, List.setIfInBounds_toArray, List.set_cons_zero, List.set_cons_succ]
    refine wpAnyH_take (i := 8) (oi := { dst := some 23, op := Go.Op.move (Go.Operand.tmp 1), type := 3, pos := "icache.go:95", after := #[], guard := none }) (v := ?_) rfl (by kernel_rfl) (by kernel_rfl) (by kernel_rfl) (fun _ _ _ h => h) (Or.inl ⟨by rfl, ?_⟩) (by assumption) ?_
    rotate_left
    · (intro w0 hSw; (try dsimp only at hSw); go_split_ands; go_simp; with_reducible rfl)
    try simp only [Act.put, List.setIfInBounds_toArray, List.set_cons_zero, List.set_cons_succ]
    refine wpAnyH_take (i := 9) (oi := { dst := some 24, op := Go.Op.move (Go.Operand.tmp 2), type := 35, pos := "icache.go:95", after := #[], guard := none }) (v := ?_) rfl (by kernel_rfl) (by kernel_rfl) (by kernel_rfl) (fun _ _ _ h => h) (Or.inl ⟨by rfl, ?_⟩) (by assumption) ?_
    rotate_left
    · (intro w0 hSw; (try dsimp only at hSw); go_split_ands; go_simp; with_reducible rfl)
    try simp only [Act.put, List.setIfInBounds_toArray, List.set_cons_zero, List.set_cons_succ]
    refine wpAnyH_ready (rs := [10]) (by kernel_rfl) (by simp) ?_
    refine AllReadyH.cons (o := { dst := some 25, op := Go.Op.call { callee := Go.Callee.value (Go.Operand.func 52), args := #[Go.Operand.tmp 22, Go.Operand.tmp 23, Go.Operand.tmp 24], argTypes := #[37, 3, 35] }, type := 50, pos := "icache.go:95", after := #[{ on := 7, ground := Go.Ground.data }, { on := 8, ground := Go.Ground.data }, { on := 9, ground := Go.Ground.data }], guard := none }) rfl (fun K hK => ?_) AllReadyH.nil
    go_simp
    go_at_call 52
    refine (fill_c HSd.out hk hN).mono ?_
    rintro e w2 ⟨rfl, hs2, hb2⟩
    have HS2 := Lib.hid hs2
    have HB2 := Lib.hid (HBd.out.trans hb2)
    clear hs2 hb2
    refine hK.out _ _ HS2.out.cells.2.2.2.1 (fun hHeld => ?_)
    clear hK K
    try simp only [Act.put, List.setIfInBounds_toArray, List.set_cons_zero, List.set_cons_succ]
    obtain ⟨w3, hrun, hm3, hg3⟩ := HS2.out.mh.put (by have := fill_N S c x; unfold maxLen; omega) hk HVL.out
    have hrun2 : (Instr.mapUpdate 77 (.map (some L.bh)) (.agg #[.int .i64 c, .int .u64 (x : Nat)]) (.int .u32 (S.val c x : Nat))).run Try.prog w2 = .ok () w3 := hrun
    have HS3 := Lib.hid (HS2.out.setH (Nat.le_succ _) hm3 hg3)
    have HB3 := Lib.hid (HB2.out.trans (HS2.out.gb hg3 HS2.out.lh))
    clear hm3 hg3 hrun
    refine wpAnyH_ready (rs := [11]) (by kernel_rfl) (by simp) ?_
    refine AllReadyH.cons (o := { dst := none, op := Go.Op.mapUpdate 77 (Go.Operand.tmp 18) (Go.Operand.tmp 21) (Go.Operand.tmp 25), type := 0, pos := "icache.go:95", after := #[{ on := 3, ground := Go.Ground.data }, { on := 6, ground := Go.Ground.data }, { on := 10, ground := Go.Ground.data }, { on := 10, ground := Go.Ground.chain }, { on := 0, ground := Go.Ground.phase }, { on := 1, ground := Go.Ground.phase }, { on := 2, ground := Go.Ground.phase }, { on := 3, ground := Go.Ground.phase }, { on := 4, ground := Go.Ground.phase }, { on := 5, ground := Go.Ground.phase }, { on := 6, ground := Go.Ground.phase }, { on := 7, ground := Go.Ground.phase }, { on := 8, ground := Go.Ground.phase }, { on := 9, ground := Go.Ground.phase }, { on := 10, ground := Go.Ground.phase }], guard := none }) rfl (fun K hK => ?_) AllReadyH.nil
    go_simp
    refine hK.out _ _ HS3.out.cells.2.2.2.1 (fun hHeld => ?_)
    clear hK K
    try simp only [Act.put, List.setIfInBounds_toArray, List.set_cons_zero, List.set_cons_succ]
    refine wpAnyH_done (by kernel_rfl) ?_ _
    clear hHeld
    go_wp2
    go_ret
    exact ⟨by rw [HZ.out]; rfl, by rw [HV.out]; exact HS3.out, HB3.out⟩
  · have HV : Hid (S.ahead c x = S) := Lib.hid (if_neg h0)
    have d2 : ((rdy S c x : Int) == 0) = false := by simpa using h0
    have d3 : ((rdy S c x : Int) != 0) = true := by simpa using h0
    clear h0
    go_enter Try.func30, Try.ntmps30
    go_wp2_with (go_at_call 51; refine HR.out.mono ?_; rintro e w1 ⟨rfl, q, rfl⟩; have H1 := Lib.hid (H.out.past (below_drewN (Below.refl _ _) q)))
    go_ret
    exact ⟨rfl, by rw [HV.out]; exact H1.out, Sv.bd q⟩
def Sd.fetchV (S : Sd) (c : Int) (x : Nat) (ah : Bool) : Nat := if rdy S c x = 0 then (if ah = true then (S.H c x).getD (S.val c x) else S.val c x) else 0
def Sd.fetch (S : Sd) (c : Int) (x : Nat) (ah : Bool) : Sd := if rdy S c x = 0 then (if ah = true ∧ (S.H c x).isSome = true then S else S.fill c x) else S
set_option maxHeartbeats 2000000 in
theorem fetch_c (h : SdC w lo p L V S) {c : Int} {x : Nat} (ah : Bool) (hk : Okk c x) (hN : S.N < 1000000000) : Calls Try.prog 16 #[.pointer (some ⟨p, 0, none⟩), .int .i64 c, .int .u64 x, .bool ah] w fun e w' => e = .returned (.tuple #[.int .u32 (S.fetchV c x ah : Nat), .int .i64 (rdy S c x : Nat)]) ∧ SdC w' lo p L V (S.fetch c x ah) ∧ Sv lo w w' := by
  have H := Lib.hid h
  have HR := Lib.hid (ready_c h c hk.2.2)
  clear h
  by_cases h0 : rdy S c x = 0
  · have HZ : Hid (rdy S c x = 0) := Lib.hid h0
    have HV : Hid (S.fetchV c x ah = if ah = true then (S.H c x).getD (S.val c x) else S.val c x) := Lib.hid (if_pos h0)
    have HF : Hid (S.fetch c x ah = if ah = true ∧ (S.H c x).isSome = true then S else S.fill c x) := Lib.hid (if_pos h0)
    rw [h0] at HR
    clear h0
    cases hcx : S.H c x with
    | some y =>
      have HL : Hid ((S.H c x).getD 0 = y ∧ (S.H c x).isSome = true ∧ (S.H c x).getD (S.val c x) = y) := Lib.hid (by rw [hcx]; exact ⟨rfl, rfl, rfl⟩)
      clear hcx
      cases ah with
      | true =>
        go_enter Try.func16, Try.ntmps16
        go_wp2_with (first
          | (go_at_call 51; refine HR.out.mono ?_; rintro e w1 ⟨rfl, q, rfl⟩; have H1 := Lib.hid (H.out.past (below_drewN (Below.refl _ _) q)); have c3 := H1.out.cells.2.2.2.1; have HM := Lib.hid H1.out.mh)
          | (at_lookup; refine wpList_look rfl _ _ rfl rfl rfl HM.out hk ?_; rw [HL.out.1, HL.out.2.1]))
        refine bodyPost_ret (v := .tuple #[.int .u32 (y : Nat), .int .i64 0]) (by simp [results, Try.results16, go_sem]) rfl ⟨by rw [HV.out, HZ.out, if_pos trivial, HL.out.2.2]; rfl, by rw [HF.out, if_pos ⟨trivial, HL.out.2.1⟩]; exact H1.out, Sv.bd q⟩
      | false =>
        go_enter Try.func16, Try.ntmps16
        go_wp2_with (first
          | (go_at_call 51; refine HR.out.mono ?_; rintro e w1 ⟨rfl, q, rfl⟩; have H1 := Lib.hid (H.out.past (below_drewN (Below.refl _ _) q)); have c3 := H1.out.cells.2.2.2.1; have HM := Lib.hid H1.out.mh)
          | (at_lookup; refine wpList_look rfl _ _ rfl rfl rfl HM.out hk ?_; rw [HL.out.1, HL.out.2.1])
          | (go_at_call 52; refine (fill_c H1.out hk hN).mono ?_; rintro e w2 ⟨rfl, hs2, hb2⟩; have HS2 := Lib.hid hs2; have HB2 := Lib.hid hb2; clear hs2 hb2))
        refine bodyPost_ret (v := .tuple #[.int .u32 (S.val c x : Nat), .int .i64 0]) (by simp [results, Try.results16, go_sem]) rfl ⟨by rw [HV.out, HZ.out, if_neg (by decide)]; rfl, by rw [HF.out, if_neg (fun h => by cases h.1)]; exact HS2.out, (Sv.bd q).trans HB2.out⟩
    | none =>
      have HL : Hid ((S.H c x).getD 0 = 0 ∧ (S.H c x).isSome = false ∧ (S.H c x).getD (S.val c x) = S.val c x) := Lib.hid (by rw [hcx]; exact ⟨rfl, rfl, rfl⟩)
      clear hcx
      have HF2 : Hid (S.fetch c x ah = S.fill c x) := Lib.hid (by rw [HF.out, if_neg (fun h => by rw [HL.out.2.1] at h; cases h.2)])
      have HV2 : Hid (S.fetchV c x ah = S.val c x) := Lib.hid (by rw [HV.out, HL.out.2.2]; split <;> rfl)
      go_enter Try.func16, Try.ntmps16
      go_wp2_with (first
        | (go_at_call 51; refine HR.out.mono ?_; rintro e w1 ⟨rfl, q, rfl⟩; have H1 := Lib.hid (H.out.past (below_drewN (Below.refl _ _) q)); have c3 := H1.out.cells.2.2.2.1; have HM := Lib.hid H1.out.mh)
        | (at_lookup; refine wpList_look rfl _ _ rfl rfl rfl HM.out hk ?_; rw [HL.out.1, HL.out.2.1])
        | (go_at_call 52; refine (fill_c H1.out hk hN).mono ?_; rintro e w2 ⟨rfl, hs2, hb2⟩; have HS2 := Lib.hid hs2; have HB2 := Lib.hid hb2; clear hs2 hb2))
      refine bodyPost_ret (v := .tuple #[.int .u32 (S.val c x : Nat), .int .i64 0]) (by simp [results, Try.results16, go_sem]) rfl ⟨by rw [HV2.out, HZ.out]; rfl, by rw [HF2.out]; exact HS2.out, (Sv.bd q).trans HB2.out⟩
  · have HV : Hid (S.fetch c x ah = S ∧ S.fetchV c x ah = 0) := Lib.hid ⟨if_neg h0, if_neg h0⟩
    have d2 : ((rdy S c x : Int) == 0) = false := by simpa using h0
    have d3 : ((rdy S c x : Int) != 0) = true := by simpa using h0
    clear h0
    go_enter Try.func16, Try.ntmps16
    go_wp2_with (go_at_call 51; refine HR.out.mono ?_; rintro e w1 ⟨rfl, q, rfl⟩; have H1 := Lib.hid (H.out.past (below_drewN (Below.refl _ _) q)))
    refine bodyPost_ret (v := .tuple #[.int .u32 0, .int .i64 (rdy S c x : Nat)]) (by simp [results, Try.results16, go_sem]) rfl ⟨by rw [HV.out.2]; rfl, by rw [HV.out.1]; exact H1.out, Sv.bd q⟩
end
end Go.Proofs.Ytjcbhomfggjmhaa.Mm
