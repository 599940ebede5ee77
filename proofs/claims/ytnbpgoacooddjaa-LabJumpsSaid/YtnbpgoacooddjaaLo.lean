import Derived.Test.YtnbpgoacooddjaaLn
namespace Go.Proofs.Ytnbpgoacooddjaa.Lab
open Go.ChangeShapes Go.WideShapes Go.ChangeAt Go.RowKit Go.Maps
open Go.Proofs.Ytnbpgoacooddjaa.En
set_option linter.unusedVariables false
attribute [local go_sem] rowAt_drew rowAt_drewN
theorem placeS_small (m : Nat) (h : m ≤ 100000) : placeS 1048576 m = 1048576 + 4 * (m : Int) := by
  unfold placeS
  rw [IntKind.wrap_u64]
  omega
theorem words_jp {B : Nat} {w0 w : World} {p : Nat} {S : Lb} {a t N : Nat} {o : Int} (h : LbB B w0 w p S) (hj : JP S a t N o) (ht : t ≤ 65536) (hg : good (landF S (fun _ => a) (fun _ => t) 1) N) :
    Calls Try.prog 22 #[.pointer (some ⟨p, 0, none⟩)] w fun e w' => ∃ g, e = .returned (.tuple #[.slice (some ⟨g, 0, none⟩) N N, .int .i64 0]) ∧ g < w'.heap.size ∧ (∀ j, j < N → w'.cell? ⟨g, j, none⟩ = some (.int .u32 (landF S (fun _ => a) (fun _ => t) 1 j).w)) ∧ Below w.heap.size w w' := by
  have := words_b h hj.err (fun _ => a) (fun _ => t) (by rw [hj.jn]; decide) (fun k hk => by
    obtain rfl : k = 0 := by rw [hj.jn] at hk; omega
    have hnm := hj.nm
    refine ⟨hj.pl, by rw [hj.n]; exact hj.an, by rw [hnm]; decide, by rw [hnm]; exact hj.has, by rw [hnm]; exact hj.atk, ht⟩) (by rw [hj.jn, hj.n]; exact hg)
  rw [hj.jn, hj.n] at this
  refine this.mono fun e w' hh => ?_
  obtain ⟨g, h1, h2, h3, h4⟩ := hh
  have hc := (own_cells h3).1
  have hget : ∀ j, j < N → w'.cell? ⟨g, j, none⟩ = some (.int .u32 (landF S (fun _ => a) (fun _ => t) 1 j).w) := fun j hj => hc j _ (by unfold ws; rw [List.getElem?_map, List.getElem?_range hj]; rfl)
  exact ⟨g, h1, World.block_lt_of_cell? w' ⟨g, a, none⟩ (hget a hj.an), hget, h4⟩
theorem where_jp {B : Nat} {w0 w : World} {p : Nat} {S : Lb} {a t N : Nat} {o : Int} (h : LbB B w0 w p S) (hj : JP S a t N o) (ht : t ≤ 65536) :
    Calls Try.prog 30 #[.pointer (some ⟨p, 0, none⟩), .string nmX] w fun e w' => e = .returned (.tuple #[.int .u64 (1048576 + 4 * (t : Int)), .bool true]) ∧ w = w' := by
  have := where_b h nmX (by decide) hj.has t (by omega) hj.atk
  rw [hj.at0, placeS_small t (by omega)] at this
  exact this
theorem wp_narrow7 {P : Program} {c : Code} {K : Act → World → Prop} {Q : Exit → Act → World → Prop} {a : Act} {w : World} (h : c.wp P (Exit.then K (fun _ _ _ => False)) a w) : c.wp P (Exit.then K Q) a w :=
  wp_mono h (fun e a w he => by
    cases e
    case normal => exact he
    all_goals exact False.elim he)
theorem new_no : Maps.has (DataW.map [] : DataW Unit) (ky nmX) = false := rfl
set_option maxRecDepth 100000 in
set_option maxHeartbeats 80000000 in
theorem jumps_m (n1 n2 k : Nat) (bk : Bool) (h1 : n1 ≤ 3000) (h2 : n2 ≤ 3000) (hk : k < 5) (w : World) :
    Calls Try.prog 7 #[.int .i64 n1, .int .i64 n2, .bool bk, .int .i64 k] w fun e w' => e = .returned (.bool true) ∧ Below w.heap.size w w' := by
  have HKN := Lib.hid (known19 w)
  go_enter Try.func7, Try.ntmps7
  go_upto_region 11 with (first | (go_at_call 19; refine HKN.out.mono ?_; rintro e w1 ⟨rfl, hb1⟩; have HB1 := Lib.hid hb1; clear hb1) | (go_at_call 20; refine (new_b 1048576 _).mono ?_; rintro e w2 ⟨rfl, hl2⟩; have HL2 := Lib.hid hl2; clear hl2))
  all_goals (try (exfalso; omega))
  have hB : (w1.alloc (.cells #[.int .i64 20, .int .i64 24, .int .i64 22, .int .i64 23, .int .i64 21] 3)).heap.size = w1.heap.size + 1 := by simp
  rw [hB] at HL2
  have hR := rowAt_new w1 #[.int .i64 20, .int .i64 24, .int .i64 22, .int .i64 23, .int .i64 21] 3
  have hW := (Below.refl w1.heap.size w1).alloc (Nat.le_refl _) (.cells #[.int .i64 20, .int .i64 24, .int .i64 22, .int .i64 23, .int .i64 21] 3)
  obtain ⟨W, hWe⟩ : ∃ W, w1.alloc (.cells #[.int .i64 20, .int .i64 24, .int .i64 22, .int .i64 23, .int .i64 21] 3) = W := ⟨_, rfl⟩
  rw [hWe] at HL2 hR hW hB
  obtain ⟨ob, hob⟩ : ∃ ob, w1.heap.size = ob := ⟨_, rfl⟩
  have HW := Lib.hid (HB1.out.trans (hW.mono HB1.out.size))
  have hwob : w.heap.size ≤ ob := by have := HB1.out.size; omega
  rw [hob] at HL2 hR hB
  rw [hob]
  clear hWe hW hob HB1 HKN
  have HR := Lib.hid hR
  clear hR
  obtain ⟨p, hp⟩ : ∃ p, ob + 1 + 1 = p := ⟨_, rfl⟩
  rw [hp] at HL2
  rw [hp]
  clear hp
  have HOP : Hid (∀ V, LbB (ob + 1) W V p (Lb.new 0) ∨ Below (ob + 1) W V → V.cell? ⟨ob, k, none⟩ = some (.int .i64 (opJ k))) := Lib.hid (fun V hV => by
    have hb : Below (ob + 1) W V := by
      rcases hV with h | h
      · exact h.bl
      · exact h
    rw [hb.cell (p := ⟨ob, k, none⟩) (by simp), rowAt_cell HR.out k]
    rcases (show k = 0 ∨ k = 1 ∨ k = 2 ∨ k = 3 ∨ k = 4 by omega) with rfl | rfl | rfl | rfl | rfl <;> rfl)
  obtain ⟨T1, hT1⟩ : ∃ T1, fillS (Lb.new 1048576) n1 = T1 := ⟨_, rfl⟩
  have s1 := fill_same (Lb.new 1048576) n1
  have m1 := fillS_n (Lb.new 1048576) n1
  rw [hT1] at s1 m1
  have e1 : T1.n = n1 := by rw [m1]; show 0 + n1 = n1; omega
  have d1 : T1.D = .map [] := s1.2.2.1
  have j1 : T1.jn = 0 := s1.2.2.2.1
  have cn1 : T1.cnt = 0 := s1.2.1
  have at1 : T1.at0 = 1048576 := s1.1
  have HT1 := Lib.hid hT1
  clear s1 m1 hT1
  go_upto_region 12 with (go_at_call 25; refine (fill_b HL2.out n1 (by show 0 + n1 ≤ _; omega)).mono ?_; rintro e w3 ⟨rfl, hl3⟩; rw [HT1.out] at hl3; have HL3 := Lib.hid hl3; clear hl3 HL2)
  cases bk
  · have HL4 := HL3
    go_upto_region 14 with (fail)
    obtain ⟨T2, hT2⟩ : ∃ T2, fillS (T1) n2 = T2 := ⟨_, rfl⟩
    have s2 := fill_same (T1) n2
    have m2 := fillS_n (T1) n2
    rw [hT2] at s2 m2
    have e2 : T2.n = n1 + n2 := by rw [m2]; show T1.n + n2 = _; rw [e1]
    have j2 : T2.jn = 0 := s2.2.2.2.1.trans j1
    have at2 : T2.at0 = 1048576 := s2.1.trans at1
    have cn2 : T2.cnt ≤ 1 := by rw [s2.2.1]; rw [cn1]; decide
    have HD2 := Lib.hid s2.2.2.1
    have HT2 := Lib.hid hT2
    clear s2 m2 hT2
    go_upto_region 15 with (go_at_call 25; refine (fill_b HL4.out n2 (by show T1.n + n2 ≤ _; omega)).mono ?_; rintro e w5 ⟨rfl, hl5⟩; rw [HT2.out] at hl5; have HL5 := Lib.hid hl5; clear hl5 HL4)
    have hh := here_b HL5.out
    rw [at2, e2, placeS_small _ (by omega)] at hh
    have HH := Lib.hid hh
    clear hh
    have co := HOP.out w5 (.inr HL5.out.bl)
    go_upto_region 17 with (first | (go_at_call 27; refine HH.out.mono ?_; rintro e w6 ⟨rfl, rfl⟩) | (go_at_call 28; refine (jump_b HL5.out (jI (opJ k) 0) nmX (jI_j k hk) (jI_ok k hk 0 (by decide) (by decide) (by decide)) (by omega) (by omega)).mono ?_; rintro e w6 ⟨rfl, hl6⟩; have HL6 := Lib.hid hl6; clear hl6 HL5))
    have e3 : (T2.jump (jI (opJ k) 0) nmX).n = n1 + n2 + 1 := by show T2.n + 1 = _; rw [e2]
    obtain ⟨T3, hT3⟩ : ∃ T3, fillS (T2.jump (jI (opJ k) 0) nmX) n2 = T3 := ⟨_, rfl⟩
    have s3 := fill_same (T2.jump (jI (opJ k) 0) nmX) n2
    have m3 := fillS_n (T2.jump (jI (opJ k) 0) nmX) n2
    rw [hT3] at s3 m3
    have e4 : T3.n = n1 + 2 * n2 + 1 := by rw [m3, e3]; omega
    have cn3 : T3.cnt ≤ 1 := by rw [s3.2.1]; exact cn2
    have HD3 := Lib.hid s3.2.2.1
    have HT3 := Lib.hid hT3
    clear s3 m3 hT3 co
    go_upto_region 18 with (go_at_call 25; refine (fill_b HL6.out n2 (by omega)).mono ?_; rintro e w7 ⟨rfl, hl7⟩; rw [HT3.out] at hl7; have HL7 := Lib.hid hl7; clear hl7 HL6)
    have hno : Maps.has T3.D (ky nmX) = false := by rw [HD3.out]; show Maps.has T2.D _ = false; rw [HD2.out, d1]; rfl
    go_upto_region 20 with (go_at_call 26; refine (label_b HL7.out nmX (by decide) (by omega) hno).mono ?_; rintro e w8 ⟨rfl, hl8⟩; have HL8 := Lib.hid hl8; clear hl8 HL7)
    have hpl : (T3.lab nmX).app (fun _ => nop) 1 = playF n1 n2 (opJ k) := by rw [← HT3.out, ← HT2.out, ← HT1.out]; rfl
    have hjp := playF_jp n1 n2 k
    have hnn := playF_n n1 n2 (opJ k)
    obtain ⟨PS, hPS⟩ : ∃ PS, playF n1 n2 (opJ k) = PS := ⟨_, rfl⟩
    rw [hPS] at hpl hjp hnn
    have HPUT := Lib.hid (put1_b HL8.out nop (by show T3.n < _; omega) nop_e)
    rw [hpl] at HPUT
    have HJP := Lib.hid hjp
    obtain ⟨hgd, hat⟩ := hjp.land hk (by omega) (by omega)
    have HGD := Lib.hid hgd
    have HAT := Lib.hid hat
    clear hpl hPS hjp hgd hat HL8 HT3 HT2 HT1 HD2 HD3 d1 j1 cn1 at1 j2 at2 cn2 cn3 e1 e2 e3 e4 HH hno
    go_upto_region 21 with (go_at_call 29; refine HPUT.out.mono ?_; rintro e w9 ⟨rfl, hl9⟩; have HL9 := Lib.hid hl9; clear hl9 HPUT)
    have hw21 := words_jp HL9.out HJP.out (by omega) HGD.out
    have HW21 := Lib.hid hw21
    clear hw21
    go_upto_region 24 with (first | (go_at_call 22; refine HW21.out.mono ?_; rintro e w10 ⟨g, rfl, hgl, hcs, hb10⟩; have HL10 := Lib.hid (HL9.out.past hb10); have cg := hcs (n1 + n2) (by omega); rw [HAT.out] at cg; have HGL := Lib.hid hgl; clear hcs hgl hb10 HL9) | (go_at_call 30; refine (where_jp HL10.out HJP.out (by omega)).mono ?_; rintro e w11 ⟨rfl, rfl⟩))
    have hdec := fun V => dec_in (jI (opJ k) (4 * (((n1 + 2 * n2 + 1 : Nat) : Int) - ((n1 + n2 : Nat) : Int)))) (jI_ok k hk _ (by omega) (by omega) (by omega)) V
    have hlt : n1 + n2 < n1 + 2 * n2 + 2 := by omega
    have hsum : IntKind.u64.wrap (1048576 + 4 * ((n1 : Int) + n2) + IntKind.u64.wrap (4 * (((n1 + 2 * n2 + 1 : Nat) : Int) - ((n1 + n2 : Nat) : Int)))) = 1048576 + 4 * ((n1 : Int) + 2 * n2 + 1) := by rw [IntKind.wrap_u64, IntKind.wrap_u64]; omega
    rw [show (1048576 + 4 * ((n1 : Int) + n2) - 1048576) / 4 = ((n1 + n2 : Nat) : Int) by omega]
    obtain ⟨x, hx⟩ : ∃ x, jI (opJ k) (4 * (((n1 + 2 * n2 + 1 : Nat) : Int) - ((n1 + n2 : Nat) : Int))) = x := ⟨_, rfl⟩
    have hxv : x.v = .agg #[.int .i64 (opJ k), .int .i64 0, .int .i64 0, .int .i64 0, .int .i64 0, .int .i64 0, .int .i64 (4 * (((n1 + 2 * n2 + 1 : Nat) : Int) - ((n1 + n2 : Nat) : Int)))] := by rw [← hx]; rfl
    rw [hx] at cg hdec
    obtain ⟨xw, hxw⟩ : ∃ xw, x.w = xw := ⟨_, rfl⟩
    rw [hxw, hxv] at hdec
    rw [hxw] at cg
    obtain ⟨q, hq⟩ : ∃ q, 4 * (((n1 + 2 * n2 + 1 : Nat) : Int) - ((n1 + n2 : Nat) : Int)) = q := ⟨_, rfl⟩
    rw [hq] at hdec hsum
    obtain ⟨a, ha⟩ : ∃ a, n1 + n2 = a := ⟨_, rfl⟩
    rw [ha] at cg hlt
    rw [ha]
    obtain ⟨N, hN⟩ : ∃ N, n1 + 2 * n2 + 2 = N := ⟨_, rfl⟩
    rw [hN] at hlt
    try rw [hN]
    obtain ⟨fr, hfr⟩ : ∃ fr, 1048576 + 4 * ((n1 : Int) + n2) = fr := ⟨_, rfl⟩
    rw [hfr] at hsum
    try rw [hfr]
    obtain ⟨tt, htt⟩ : ∃ tt, 1048576 + 4 * ((n1 : Int) + 2 * n2 + 1) = tt := ⟨_, rfl⟩
    rw [htt] at hsum
    try rw [htt]
    obtain ⟨o, hoo⟩ : ∃ o, opJ k = o := ⟨_, rfl⟩
    have co := HOP.out w10 (.inr HL10.out.bl)
    rw [hoo] at co hdec
    have hltb : (a : Int) < IntKind.u64.wrap (N : Int) := by rw [IntKind.wrap_u64]; omega
    have HDEC := Lib.hid hdec
    have HSUM := Lib.hid hsum
    have hbw := HW.out.trans (HL10.out.bl.mono (by omega))
    have HBW := Lib.hid hbw
    have hgw := HGL.out
    have hobl : ob < w10.heap.size := World.block_lt_of_cell? w10 ⟨ob, k, none⟩ co
    clear hdec hsum hxv hx hxw hq hfr htt hoo HAT HGD HJP HW21 HW hbw
    have cgd : w10.drew.cell? ⟨g, a, none⟩ = some (.int .u32 xw) := cg
    have cod : w10.drew.cell? ⟨ob, k, none⟩ = some (.int .i64 o) := co
    refine wp_narrow7 ?_
    refine wp_region_held_drew (S := fun w' => w'.cell? ⟨g, a, none⟩ = some (.int .u32 xw) ∧ w'.cell? ⟨ob, k, none⟩ = some (.int .i64 o)) (by kernel_rfl) ⟨cgd, cod⟩ (fun hHeld => ?_)
    refine wpAnyH_take (i := 0) (oi := { dst := some 87, op := Go.Op.move (Go.Operand.tmp 13), type := 32, pos := "law.go:185", after := #[], guard := none }) (v := ?_) rfl (by kernel_rfl) (by kernel_rfl) (by kernel_rfl) (fun _ _ _ h => h) (Or.inl ⟨by rfl, ?_⟩) (by assumption) ?_
    rotate_left
    · (intro w0 hSw; (try dsimp only at hSw); go_split_ands; go_simp; with_reducible rfl)
    try simp only [Act.put, List.setIfInBounds_toArray, List.set_cons_zero, List.set_cons_succ]
    refine wpAnyH_take (i := 1) (oi := { dst := some 88, op := Go.Op.binOp Go.BinOp.eql 3 (Go.Operand.tmp 87) (Go.Operand.const (Go.Value.int Go.IntKind.i64 0)) 3, type := 4, pos := "law.go:185", after := #[{ on := 0, ground := Go.Ground.data }], guard := none }) (v := ?_) rfl (by kernel_rfl) (by kernel_rfl) (by kernel_rfl) (fun _ _ _ h => h) (Or.inl ⟨by rfl, ?_⟩) (by assumption) ?_
    rotate_left
    · (intro w0 hSw; (try dsimp only at hSw); go_split_ands; go_simp; with_reducible rfl)
    try simp only [Act.put, List.setIfInBounds_toArray, List.set_cons_zero, List.set_cons_succ]
    refine wpAnyH_take (i := 2) (oi := { dst := some 89, op := Go.Op.move (Go.Operand.tmp 88), type := 4, pos := "law.go:185", after := #[{ on := 1, ground := Go.Ground.data }], guard := none }) (v := ?_) rfl (by kernel_rfl) (by kernel_rfl) (by kernel_rfl) (fun _ _ _ h => h) (Or.inl ⟨by rfl, ?_⟩) (by assumption) ?_
    rotate_left
    · (intro w0 hSw; (try dsimp only at hSw); go_split_ands; go_simp; with_reducible rfl)
    try simp only [Act.put, List.setIfInBounds_toArray, List.set_cons_zero, List.set_cons_succ]
    refine wpAnyH_take (i := 3) (oi := { dst := some 90, op := Go.Op.move (Go.Operand.tmp 15), type := 4, pos := "law.go:185", after := #[{ on := 2, ground := Go.Ground.guard }], guard := some (2, true) }) (v := ?_) rfl (by kernel_rfl) (by kernel_rfl) (by kernel_rfl) (fun _ _ _ h => h) (Or.inl ⟨by rfl, ?_⟩) (by assumption) ?_
    rotate_left
    · (intro w0 hSw; (try dsimp only at hSw); go_split_ands; go_simp; with_reducible rfl)
    try simp only [Act.put, List.setIfInBounds_toArray, List.set_cons_zero, List.set_cons_succ]
    refine wpAnyH_take (i := 4) (oi := { dst := some 91, op := Go.Op.pick (Go.Operand.tmp 89) (Go.Operand.tmp 90) (Go.Operand.const (Go.Value.bool false)), type := 4, pos := "law.go:185", after := #[{ on := 2, ground := Go.Ground.data }, { on := 3, ground := Go.Ground.data }], guard := none }) (v := ?_) rfl (by kernel_rfl) (by kernel_rfl) (by kernel_rfl) (fun _ _ _ h => h) (Or.inl ⟨by rfl, ?_⟩) (by assumption) ?_
    rotate_left
    · (intro w0 hSw; (try dsimp only at hSw); go_split_ands; go_simp; with_reducible rfl)
    try simp only [Act.put, List.setIfInBounds_toArray, List.set_cons_zero, List.set_cons_succ]
    refine wpAnyH_take (i := 5) (oi := { dst := some 92, op := Go.Op.move (Go.Operand.tmp 91), type := 4, pos := "law.go:185", after := #[{ on := 4, ground := Go.Ground.data }, { on := 2, ground := Go.Ground.chain }], guard := none }) (v := ?_) rfl (by kernel_rfl) (by kernel_rfl) (by kernel_rfl) (fun _ _ _ h => h) (Or.inl ⟨by rfl, ?_⟩) (by assumption) ?_
    rotate_left
    · (intro w0 hSw; (try dsimp only at hSw); go_split_ands; go_simp; with_reducible rfl)
    try simp only [Act.put, List.setIfInBounds_toArray, List.set_cons_zero, List.set_cons_succ]
    refine wpAnyH_take (i := 6) (oi := { dst := some 93, op := Go.Op.move (Go.Operand.tmp 16), type := 23, pos := "law.go:185", after := #[{ on := 5, ground := Go.Ground.guard }], guard := some (5, true) }) (v := ?_) rfl (by kernel_rfl) (by kernel_rfl) (by kernel_rfl) (fun _ _ _ h => h) (Or.inl ⟨by rfl, ?_⟩) (by assumption) ?_
    rotate_left
    · (intro w0 hSw; (try dsimp only at hSw); go_split_ands; go_simp; with_reducible rfl)
    try simp only [Act.put, List.setIfInBounds_toArray, List.set_cons_zero, List.set_cons_succ]
    refine wpAnyH_take (i := 7) (oi := { dst := some 94, op := Go.Op.move (Go.Operand.tmp 12), type := 46, pos := "law.go:185", after := #[{ on := 5, ground := Go.Ground.guard }], guard := some (5, true) }) (v := ?_) rfl (by kernel_rfl) (by kernel_rfl) (by kernel_rfl) (fun _ _ _ h => h) (Or.inl ⟨by rfl, ?_⟩) (by assumption) ?_
    rotate_left
    · (intro w0 hSw; (try dsimp only at hSw); go_split_ands; go_simp; with_reducible rfl)
    try simp only [Act.put, List.setIfInBounds_toArray, List.set_cons_zero, List.set_cons_succ]
    refine wpAnyH_take (i := 8) (oi := { dst := some 95, op := Go.Op.call { callee := Go.Callee.builtin Go.Builtin.len, args := #[Go.Operand.tmp 94], argTypes := #[46] }, type := 3, pos := "law.go:185", after := #[{ on := 7, ground := Go.Ground.data }, { on := 5, ground := Go.Ground.guard }], guard := some (5, true) }) (v := ?_) rfl (by kernel_rfl) (by kernel_rfl) (by kernel_rfl) (fun _ _ _ h => h) (Or.inl ⟨by rfl, ?_⟩) (by assumption) ?_
    rotate_left
    · (intro w0 hSw; (try dsimp only at hSw); go_split_ands; go_simp; with_reducible rfl)
    try simp only [Act.put, List.setIfInBounds_toArray, List.set_cons_zero, List.set_cons_succ]
    refine wpAnyH_take (i := 9) (oi := { dst := some 96, op := Go.Op.convert 3 23 (Go.Operand.tmp 95), type := 23, pos := "law.go:185", after := #[{ on := 8, ground := Go.Ground.data }, { on := 5, ground := Go.Ground.guard }], guard := some (5, true) }) (v := ?_) rfl (by kernel_rfl) (by kernel_rfl) (by kernel_rfl) (fun _ _ _ h => h) (Or.inl ⟨by rfl, ?_⟩) (by assumption) ?_
    rotate_left
    · (intro w0 hSw; (try dsimp only at hSw); go_split_ands; go_simp; with_reducible rfl)
    try simp only [Act.put, List.setIfInBounds_toArray, List.set_cons_zero, List.set_cons_succ]
    refine wpAnyH_take (i := 10) (oi := { dst := some 97, op := Go.Op.binOp Go.BinOp.lss 23 (Go.Operand.tmp 93) (Go.Operand.tmp 96) 23, type := 4, pos := "law.go:185", after := #[{ on := 6, ground := Go.Ground.data }, { on := 9, ground := Go.Ground.data }, { on := 5, ground := Go.Ground.guard }], guard := some (5, true) }) (v := .bool true) rfl (by kernel_rfl) (by kernel_rfl) (by kernel_rfl) (fun _ _ _ h => h) (Or.inl ⟨by rfl, ?_⟩) (by assumption) ?_
    · (intro w0 hSw; (try dsimp only at hSw); go_split_ands; go_simp)
    try simp only [Act.put, List.setIfInBounds_toArray, List.set_cons_zero, List.set_cons_succ]
    refine wpAnyH_take (i := 11) (oi := { dst := some 98, op := Go.Op.pick (Go.Operand.tmp 92) (Go.Operand.tmp 97) (Go.Operand.const (Go.Value.bool false)), type := 4, pos := "law.go:185", after := #[{ on := 5, ground := Go.Ground.data }, { on := 10, ground := Go.Ground.data }], guard := none }) (v := ?_) rfl (by kernel_rfl) (by kernel_rfl) (by kernel_rfl) (fun _ _ _ h => h) (Or.inl ⟨by rfl, ?_⟩) (by assumption) ?_
    rotate_left
    · (intro w0 hSw; (try dsimp only at hSw); go_split_ands; go_simp; with_reducible rfl)
    try simp only [Act.put, List.setIfInBounds_toArray, List.set_cons_zero, List.set_cons_succ]
    refine wpAnyH_take (i := 12) (oi := { dst := some 99, op := Go.Op.move (Go.Operand.tmp 98), type := 4, pos := "law.go:185", after := #[{ on := 11, ground := Go.Ground.data }, { on := 5, ground := Go.Ground.chain }], guard := none }) (v := ?_) rfl (by kernel_rfl) (by kernel_rfl) (by kernel_rfl) (fun _ _ _ h => h) (Or.inl ⟨by rfl, ?_⟩) (by assumption) ?_
    rotate_left
    · (intro w0 hSw; (try dsimp only at hSw); go_split_ands; go_simp; with_reducible rfl)
    try simp only [Act.put, List.setIfInBounds_toArray, List.set_cons_zero, List.set_cons_succ]
    refine wpAnyH_take (i := 13) (oi := { dst := some 100, op := Go.Op.move (Go.Operand.tmp 11), type := 23, pos := "law.go:185", after := #[{ on := 12, ground := Go.Ground.guard }], guard := some (12, true) }) (v := ?_) rfl (by kernel_rfl) (by kernel_rfl) (by kernel_rfl) (fun _ _ _ h => h) (Or.inl ⟨by rfl, ?_⟩) (by assumption) ?_
    rotate_left
    · (intro w0 hSw; (try dsimp only at hSw); go_split_ands; go_simp; with_reducible rfl)
    try simp only [Act.put, List.setIfInBounds_toArray, List.set_cons_zero, List.set_cons_succ]
    refine wpAnyH_take (i := 14) (oi := { dst := some 101, op := Go.Op.move (Go.Operand.tmp 12), type := 46, pos := "law.go:185", after := #[{ on := 12, ground := Go.Ground.guard }], guard := some (12, true) }) (v := ?_) rfl (by kernel_rfl) (by kernel_rfl) (by kernel_rfl) (fun _ _ _ h => h) (Or.inl ⟨by rfl, ?_⟩) (by assumption) ?_
    rotate_left
    · (intro w0 hSw; (try dsimp only at hSw); go_split_ands; go_simp; with_reducible rfl)
    try simp only [Act.put, List.setIfInBounds_toArray, List.set_cons_zero, List.set_cons_succ]
    refine wpAnyH_take (i := 15) (oi := { dst := some 102, op := Go.Op.move (Go.Operand.tmp 16), type := 23, pos := "law.go:185", after := #[{ on := 12, ground := Go.Ground.guard }], guard := some (12, true) }) (v := ?_) rfl (by kernel_rfl) (by kernel_rfl) (by kernel_rfl) (fun _ _ _ h => h) (Or.inl ⟨by rfl, ?_⟩) (by assumption) ?_
    rotate_left
    · (intro w0 hSw; (try dsimp only at hSw); go_split_ands; go_simp; with_reducible rfl)
    try simp only [Act.put, List.setIfInBounds_toArray, List.set_cons_zero, List.set_cons_succ]
    refine wpAnyH_take (i := 16) (oi := { dst := some 103, op := Go.Op.indexAddr 46 (Go.Operand.tmp 101) (Go.Operand.tmp 102), type := 0, pos := "law.go:185", after := #[{ on := 14, ground := Go.Ground.data }, { on := 15, ground := Go.Ground.data }, { on := 12, ground := Go.Ground.guard }], guard := some (12, true) }) (v := ?_) rfl (by kernel_rfl) (by kernel_rfl) (by kernel_rfl) (fun _ _ _ h => h) (Or.inl ⟨by rfl, ?_⟩) (by assumption) ?_
    rotate_left
    · (intro w0 hSw; (try dsimp only at hSw); go_split_ands; go_simp; with_reducible rfl)
    try simp only [Act.put, List.setIfInBounds_toArray, List.set_cons_zero, List.set_cons_succ]
    refine wpAnyH_take (i := 17) (oi := { dst := some 104, op := Go.Op.load 54 (Go.Operand.tmp 103), type := 54, pos := "law.go:185", after := #[{ on := 16, ground := Go.Ground.data }, { on := 12, ground := Go.Ground.guard }], guard := some (12, true) }) (v := ?_) rfl (by kernel_rfl) (by kernel_rfl) (by kernel_rfl) (fun _ _ _ h => h) (Or.inl ⟨by rfl, ?_⟩) (by assumption) ?_
    rotate_left
    · (intro w0 hSw; (try dsimp only at hSw); go_split_ands; go_simp; with_reducible rfl)
    try simp only [Act.put, List.setIfInBounds_toArray, List.set_cons_zero, List.set_cons_succ]
    refine wpAnyH_take (i := 22) (oi := { dst := some 109, op := Go.Op.move (Go.Operand.tmp 14), type := 23, pos := "law.go:185", after := #[{ on := 12, ground := Go.Ground.guard }], guard := some (12, true) }) (v := ?_) rfl (by kernel_rfl) (by kernel_rfl) (by kernel_rfl) (fun _ _ _ h => h) (Or.inl ⟨by rfl, ?_⟩) (by assumption) ?_
    rotate_left
    · (intro w0 hSw; (try dsimp only at hSw); go_split_ands; go_simp; with_reducible rfl)
    try simp only [Act.put, List.setIfInBounds_toArray, List.set_cons_zero, List.set_cons_succ]
    have hz0 : w10.drew.heap.size = w10.heap.size := rfl
    have hB0 : Below w.heap.size w w10.drew := HBW.out.drew
    have hwl : w.heap.size ≤ w10.heap.size := HBW.out.size
    have hf6 : ∀ W : World, (Instr.field 29 (.agg #[.int .i64 o, .int .i64 0, .int .i64 0, .int .i64 0, .int .i64 0, .int .i64 0, .int .i64 q]) 6).run Try.prog W = .ok (.int .i64 q) W := fun W => by kernel_rfl
    have hf0 : ∀ W : World, (Instr.field 29 (.agg #[.int .i64 o, .int .i64 0, .int .i64 0, .int .i64 0, .int .i64 0, .int .i64 0, .int .i64 q]) 0).run Try.prog W = .ok (.int .i64 o) W := fun W => by kernel_rfl
    have hsm := HSUM.out
    refine wpAnyH_ready (rs := [18]) (by kernel_rfl) (by simp) ?_
    refine AllReadyH.cons (o := { dst := some 105, op := Go.Op.call { callee := Go.Callee.value (Go.Operand.func 24), args := #[Go.Operand.tmp 104], argTypes := #[54] }, type := 29, pos := "law.go:185", after := #[{ on := 17, ground := Go.Ground.data }, { on := 12, ground := Go.Ground.chain }, { on := 12, ground := Go.Ground.guard }], guard := some (12, true) }) rfl (fun K hK => ?_) AllReadyH.nil
    go_simp
    go_at_call 24
    refine (HDEC.out _).mono ?_
    rintro e u1 ⟨rfl, hbu1⟩
    have cgu1 := (hbu1.cell (p := ⟨g, a, none⟩) (show g < _ by omega)).trans cgd
    have cou1 := (hbu1.cell (p := ⟨ob, k, none⟩) (show ob < _ by omega)).trans cod
    have hzu1 := hbu1.size
    have hBu1 := hB0.trans (hbu1.mono (by omega))
    refine hK.out _ _ ⟨cgu1, cou1⟩ (fun hHeld => ?_)
    clear hK K
    try simp only [Act.put, List.setIfInBounds_toArray, List.set_cons_zero, List.set_cons_succ]
    refine wpAnyH_take (i := 19) (oi := { dst := some 106, op := Go.Op.field 29 (Go.Operand.tmp 105) 6, type := 2, pos := "law.go:185", after := #[{ on := 18, ground := Go.Ground.data }, { on := 12, ground := Go.Ground.guard }], guard := some (12, true) }) (v := ?_) rfl (by kernel_rfl) (by kernel_rfl) (by kernel_rfl) (fun _ _ _ h => h) (Or.inl ⟨by rfl, ?_⟩) (by assumption) ?_
    rotate_left
    · (intro w0 hSw; (try dsimp only at hSw); go_split_ands; go_simp; with_reducible rfl)
    try simp only [Act.put, List.setIfInBounds_toArray, List.set_cons_zero, List.set_cons_succ]
    refine wpAnyH_take (i := 20) (oi := { dst := some 107, op := Go.Op.convert 2 23 (Go.Operand.tmp 106), type := 23, pos := "law.go:185", after := #[{ on := 19, ground := Go.Ground.data }, { on := 12, ground := Go.Ground.guard }], guard := some (12, true) }) (v := ?_) rfl (by kernel_rfl) (by kernel_rfl) (by kernel_rfl) (fun _ _ _ h => h) (Or.inl ⟨by rfl, ?_⟩) (by assumption) ?_
    rotate_left
    · (intro w0 hSw; (try dsimp only at hSw); go_split_ands; go_simp; with_reducible rfl)
    try simp only [Act.put, List.setIfInBounds_toArray, List.set_cons_zero, List.set_cons_succ]
    refine wpAnyH_take (i := 21) (oi := { dst := some 108, op := Go.Op.binOp Go.BinOp.add 23 (Go.Operand.tmp 100) (Go.Operand.tmp 107) 23, type := 23, pos := "law.go:185", after := #[{ on := 13, ground := Go.Ground.data }, { on := 20, ground := Go.Ground.data }, { on := 12, ground := Go.Ground.guard }], guard := some (12, true) }) (v := .int .u64 tt) rfl (by kernel_rfl) (by kernel_rfl) (by kernel_rfl) (fun _ _ _ h => h) (Or.inl ⟨by rfl, ?_⟩) (by assumption) ?_
    · (intro w0 hSw; (try dsimp only at hSw); go_split_ands; go_simp; (try rw [hsm]); (try with_reducible rfl))
    try simp only [Act.put, List.setIfInBounds_toArray, List.set_cons_zero, List.set_cons_succ]
    refine wpAnyH_take (i := 23) (oi := { dst := some 110, op := Go.Op.binOp Go.BinOp.eql 23 (Go.Operand.tmp 108) (Go.Operand.tmp 109) 23, type := 4, pos := "law.go:185", after := #[{ on := 21, ground := Go.Ground.data }, { on := 22, ground := Go.Ground.data }, { on := 12, ground := Go.Ground.guard }], guard := some (12, true) }) (v := .bool true) rfl (by kernel_rfl) (by kernel_rfl) (by kernel_rfl) (fun _ _ _ h => h) (Or.inl ⟨by rfl, ?_⟩) (by assumption) ?_
    · (intro w0 hSw; (try dsimp only at hSw); go_split_ands; go_simp; (try simp))
    try simp only [Act.put, List.setIfInBounds_toArray, List.set_cons_zero, List.set_cons_succ]
    refine wpAnyH_take (i := 24) (oi := { dst := some 111, op := Go.Op.pick (Go.Operand.tmp 99) (Go.Operand.tmp 110) (Go.Operand.const (Go.Value.bool false)), type := 4, pos := "law.go:185", after := #[{ on := 12, ground := Go.Ground.data }, { on := 23, ground := Go.Ground.data }], guard := none }) (v := ?_) rfl (by kernel_rfl) (by kernel_rfl) (by kernel_rfl) (fun _ _ _ h => h) (Or.inl ⟨by rfl, ?_⟩) (by assumption) ?_
    rotate_left
    · (intro w0 hSw; (try dsimp only at hSw); go_split_ands; go_simp; with_reducible rfl)
    try simp only [Act.put, List.setIfInBounds_toArray, List.set_cons_zero, List.set_cons_succ]
    refine wpAnyH_take (i := 25) (oi := { dst := some 112, op := Go.Op.move (Go.Operand.tmp 111), type := 4, pos := "law.go:185", after := #[{ on := 24, ground := Go.Ground.data }, { on := 18, ground := Go.Ground.chain }], guard := none }) (v := ?_) rfl (by kernel_rfl) (by kernel_rfl) (by kernel_rfl) (fun _ _ _ h => h) (Or.inl ⟨by rfl, ?_⟩) (by assumption) ?_
    rotate_left
    · (intro w0 hSw; (try dsimp only at hSw); go_split_ands; go_simp; with_reducible rfl)
    try simp only [Act.put, List.setIfInBounds_toArray, List.set_cons_zero, List.set_cons_succ]
    refine wpAnyH_take (i := 26) (oi := { dst := some 113, op := Go.Op.move (Go.Operand.tmp 12), type := 46, pos := "law.go:185", after := #[{ on := 25, ground := Go.Ground.guard }], guard := some (25, true) }) (v := ?_) rfl (by kernel_rfl) (by kernel_rfl) (by kernel_rfl) (fun _ _ _ h => h) (Or.inl ⟨by rfl, ?_⟩) (by assumption) ?_
    rotate_left
    · (intro w0 hSw; (try dsimp only at hSw); go_split_ands; go_simp; with_reducible rfl)
    try simp only [Act.put, List.setIfInBounds_toArray, List.set_cons_zero, List.set_cons_succ]
    refine wpAnyH_take (i := 27) (oi := { dst := some 114, op := Go.Op.move (Go.Operand.tmp 16), type := 23, pos := "law.go:185", after := #[{ on := 25, ground := Go.Ground.guard }], guard := some (25, true) }) (v := ?_) rfl (by kernel_rfl) (by kernel_rfl) (by kernel_rfl) (fun _ _ _ h => h) (Or.inl ⟨by rfl, ?_⟩) (by assumption) ?_
    rotate_left
    · (intro w0 hSw; (try dsimp only at hSw); go_split_ands; go_simp; with_reducible rfl)
    try simp only [Act.put, List.setIfInBounds_toArray, List.set_cons_zero, List.set_cons_succ]
    refine wpAnyH_take (i := 28) (oi := { dst := some 115, op := Go.Op.indexAddr 46 (Go.Operand.tmp 113) (Go.Operand.tmp 114), type := 0, pos := "law.go:185", after := #[{ on := 26, ground := Go.Ground.data }, { on := 27, ground := Go.Ground.data }, { on := 25, ground := Go.Ground.guard }], guard := some (25, true) }) (v := ?_) rfl (by kernel_rfl) (by kernel_rfl) (by kernel_rfl) (fun _ _ _ h => h) (Or.inl ⟨by rfl, ?_⟩) (by assumption) ?_
    rotate_left
    · (intro w0 hSw; (try dsimp only at hSw); go_split_ands; go_simp; with_reducible rfl)
    try simp only [Act.put, List.setIfInBounds_toArray, List.set_cons_zero, List.set_cons_succ]
    refine wpAnyH_take (i := 29) (oi := { dst := some 116, op := Go.Op.load 54 (Go.Operand.tmp 115), type := 54, pos := "law.go:185", after := #[{ on := 28, ground := Go.Ground.data }, { on := 25, ground := Go.Ground.guard }], guard := some (25, true) }) (v := ?_) rfl (by kernel_rfl) (by kernel_rfl) (by kernel_rfl) (fun _ _ _ h => h) (Or.inl ⟨by rfl, ?_⟩) (by assumption) ?_
    rotate_left
    · (intro w0 hSw; (try dsimp only at hSw); go_split_ands; go_simp; with_reducible rfl)
    try simp only [Act.put, List.setIfInBounds_toArray, List.set_cons_zero, List.set_cons_succ]
    refine wpAnyH_take (i := 32) (oi := { dst := some 119, op := Go.Op.move (Go.Operand.tmp 9), type := 36, pos := "law.go:185", after := #[{ on := 25, ground := Go.Ground.guard }], guard := some (25, true) }) (v := ?_) rfl (by kernel_rfl) (by kernel_rfl) (by kernel_rfl) (fun _ _ _ h => h) (Or.inl ⟨by rfl, ?_⟩) (by assumption) ?_
    rotate_left
    · (intro w0 hSw; (try dsimp only at hSw); go_split_ands; go_simp; with_reducible rfl)
    try simp only [Act.put, List.setIfInBounds_toArray, List.set_cons_zero, List.set_cons_succ]
    refine wpAnyH_take (i := 33) (oi := { dst := some 120, op := Go.Op.move (Go.Operand.tmp 3), type := 3, pos := "law.go:185", after := #[{ on := 25, ground := Go.Ground.guard }], guard := some (25, true) }) (v := ?_) rfl (by kernel_rfl) (by kernel_rfl) (by kernel_rfl) (fun _ _ _ h => h) (Or.inl ⟨by rfl, ?_⟩) (by assumption) ?_
    rotate_left
    · (intro w0 hSw; (try dsimp only at hSw); go_split_ands; go_simp; with_reducible rfl)
    try simp only [Act.put, List.setIfInBounds_toArray, List.set_cons_zero, List.set_cons_succ]
    refine wpAnyH_take (i := 34) (oi := { dst := some 121, op := Go.Op.indexAddr 36 (Go.Operand.tmp 119) (Go.Operand.tmp 120), type := 0, pos := "law.go:185", after := #[{ on := 32, ground := Go.Ground.data }, { on := 33, ground := Go.Ground.data }, { on := 25, ground := Go.Ground.guard }], guard := some (25, true) }) (v := ?_) rfl (by kernel_rfl) (by kernel_rfl) (by kernel_rfl) (fun _ _ _ h => h) (Or.inl ⟨by rfl, ?_⟩) (by assumption) ?_
    rotate_left
    · (intro w0 hSw; (try dsimp only at hSw); go_split_ands; go_simp; with_reducible rfl)
    try simp only [Act.put, List.setIfInBounds_toArray, List.set_cons_zero, List.set_cons_succ]
    refine wpAnyH_take (i := 35) (oi := { dst := some 122, op := Go.Op.load 3 (Go.Operand.tmp 121), type := 3, pos := "law.go:185", after := #[{ on := 34, ground := Go.Ground.data }, { on := 25, ground := Go.Ground.guard }], guard := some (25, true) }) (v := ?_) rfl (by kernel_rfl) (by kernel_rfl) (by kernel_rfl) (fun _ _ _ h => h) (Or.inl ⟨by rfl, ?_⟩) (by assumption) ?_
    rotate_left
    · (intro w0 hSw; (try dsimp only at hSw); go_split_ands; go_simp; with_reducible rfl)
    try simp only [Act.put, List.setIfInBounds_toArray, List.set_cons_zero, List.set_cons_succ]
    refine wpAnyH_ready (rs := [30]) (by kernel_rfl) (by simp) ?_
    refine AllReadyH.cons (o := { dst := some 117, op := Go.Op.call { callee := Go.Callee.value (Go.Operand.func 24), args := #[Go.Operand.tmp 116], argTypes := #[54] }, type := 29, pos := "law.go:185", after := #[{ on := 29, ground := Go.Ground.data }, { on := 25, ground := Go.Ground.chain }, { on := 25, ground := Go.Ground.guard }], guard := some (25, true) }) rfl (fun K hK => ?_) AllReadyH.nil
    go_simp
    go_at_call 24
    refine (HDEC.out _).mono ?_
    rintro e u2 ⟨rfl, hbu2⟩
    have cgu2 := (hbu2.cell (p := ⟨g, a, none⟩) (show g < _ by omega)).trans cgu1
    have cou2 := (hbu2.cell (p := ⟨ob, k, none⟩) (show ob < _ by omega)).trans cou1
    have hzu2 := hbu2.size
    have hBu2 := hBu1.trans (hbu2.mono (by omega))
    refine hK.out _ _ ⟨cgu2, cou2⟩ (fun hHeld => ?_)
    clear hK K
    try simp only [Act.put, List.setIfInBounds_toArray, List.set_cons_zero, List.set_cons_succ]
    refine wpAnyH_take (i := 31) (oi := { dst := some 118, op := Go.Op.field 29 (Go.Operand.tmp 117) 0, type := 3, pos := "law.go:185", after := #[{ on := 30, ground := Go.Ground.data }, { on := 25, ground := Go.Ground.guard }], guard := some (25, true) }) (v := ?_) rfl (by kernel_rfl) (by kernel_rfl) (by kernel_rfl) (fun _ _ _ h => h) (Or.inl ⟨by rfl, ?_⟩) (by assumption) ?_
    rotate_left
    · (intro w0 hSw; (try dsimp only at hSw); go_split_ands; go_simp; with_reducible rfl)
    try simp only [Act.put, List.setIfInBounds_toArray, List.set_cons_zero, List.set_cons_succ]
    refine wpAnyH_take (i := 36) (oi := { dst := some 123, op := Go.Op.binOp Go.BinOp.eql 3 (Go.Operand.tmp 118) (Go.Operand.tmp 122) 3, type := 4, pos := "law.go:185", after := #[{ on := 31, ground := Go.Ground.data }, { on := 35, ground := Go.Ground.data }, { on := 25, ground := Go.Ground.guard }], guard := some (25, true) }) (v := .bool true) rfl (by kernel_rfl) (by kernel_rfl) (by kernel_rfl) (fun _ _ _ h => h) (Or.inl ⟨by rfl, ?_⟩) (by assumption) ?_
    · (intro w0 hSw; (try dsimp only at hSw); go_split_ands; go_simp; (try simp))
    try simp only [Act.put, List.setIfInBounds_toArray, List.set_cons_zero, List.set_cons_succ]
    refine wpAnyH_take (i := 37) (oi := { dst := some 124, op := Go.Op.pick (Go.Operand.tmp 112) (Go.Operand.tmp 123) (Go.Operand.const (Go.Value.bool false)), type := 4, pos := "law.go:185", after := #[{ on := 25, ground := Go.Ground.data }, { on := 36, ground := Go.Ground.data }], guard := none }) (v := ?_) rfl (by kernel_rfl) (by kernel_rfl) (by kernel_rfl) (fun _ _ _ h => h) (Or.inl ⟨by rfl, ?_⟩) (by assumption) ?_
    rotate_left
    · (intro w0 hSw; (try dsimp only at hSw); go_split_ands; go_simp; with_reducible rfl)
    try simp only [Act.put, List.setIfInBounds_toArray, List.set_cons_zero, List.set_cons_succ]
    refine wpAnyH_take (i := 38) (oi := { dst := some 8, op := Go.Op.assign (Go.Operand.tmp 124), type := 4, pos := "law.go:185", after := #[{ on := 37, ground := Go.Ground.data }, { on := 30, ground := Go.Ground.chain }, { on := 0, ground := Go.Ground.phase }, { on := 1, ground := Go.Ground.phase }, { on := 2, ground := Go.Ground.phase }, { on := 3, ground := Go.Ground.phase }, { on := 4, ground := Go.Ground.phase }, { on := 5, ground := Go.Ground.phase }, { on := 6, ground := Go.Ground.phase }, { on := 7, ground := Go.Ground.phase }, { on := 8, ground := Go.Ground.phase }, { on := 9, ground := Go.Ground.phase }, { on := 10, ground := Go.Ground.phase }, { on := 11, ground := Go.Ground.phase }, { on := 12, ground := Go.Ground.phase }, { on := 13, ground := Go.Ground.phase }, { on := 14, ground := Go.Ground.phase }, { on := 15, ground := Go.Ground.phase }, { on := 16, ground := Go.Ground.phase }, { on := 17, ground := Go.Ground.phase }, { on := 18, ground := Go.Ground.phase }, { on := 19, ground := Go.Ground.phase }, { on := 20, ground := Go.Ground.phase }, { on := 21, ground := Go.Ground.phase }, { on := 22, ground := Go.Ground.phase }, { on := 23, ground := Go.Ground.phase }, { on := 24, ground := Go.Ground.phase }, { on := 25, ground := Go.Ground.phase }, { on := 26, ground := Go.Ground.phase }, { on := 27, ground := Go.Ground.phase }, { on := 28, ground := Go.Ground.phase }, { on := 29, ground := Go.Ground.phase }, { on := 30, ground := Go.Ground.phase }, { on := 31, ground := Go.Ground.phase }, { on := 32, ground := Go.Ground.phase }, { on := 33, ground := Go.Ground.phase }, { on := 34, ground := Go.Ground.phase }, { on := 35, ground := Go.Ground.phase }, { on := 36, ground := Go.Ground.phase }, { on := 37, ground := Go.Ground.phase }], guard := none }) (v := ?_) rfl (by kernel_rfl) (by kernel_rfl) (by kernel_rfl) (fun _ _ _ h => h) (Or.inl ⟨by rfl, ?_⟩) (by assumption) ?_
    rotate_left
    · (intro w0 hSw; (try dsimp only at hSw); go_split_ands; go_simp; with_reducible rfl)
    try simp only [Act.put, List.setIfInBounds_toArray, List.set_cons_zero, List.set_cons_succ]
    refine wpAnyH_done (by kernel_rfl) ?_ _
    clear hHeld
    go_wp2
    go_ret
    exact ⟨rfl, hBu2⟩
  · go_upto_region 14 with (go_at_call 26; refine (label_b HL3.out nmX (by decide) (by rw [cn1]; decide) (by rw [d1]; rfl)).mono ?_; rintro e w4 ⟨rfl, hl4⟩; have HL4 := Lib.hid hl4; clear hl4 HL3)
    obtain ⟨T2, hT2⟩ : ∃ T2, fillS (T1.lab nmX) n2 = T2 := ⟨_, rfl⟩
    have s2 := fill_same (T1.lab nmX) n2
    have m2 := fillS_n (T1.lab nmX) n2
    rw [hT2] at s2 m2
    have e2 : T2.n = n1 + n2 := by rw [m2]; show T1.n + n2 = _; rw [e1]
    have j2 : T2.jn = 0 := s2.2.2.2.1.trans j1
    have at2 : T2.at0 = 1048576 := s2.1.trans at1
    have cn2 : T2.cnt ≤ 1 := by rw [s2.2.1]; show T1.cnt + 1 ≤ 1; rw [cn1]; decide
    have HD2 := Lib.hid s2.2.2.1
    have HT2 := Lib.hid hT2
    clear s2 m2 hT2
    go_upto_region 15 with (go_at_call 25; refine (fill_b HL4.out n2 (by show T1.n + n2 ≤ _; omega)).mono ?_; rintro e w5 ⟨rfl, hl5⟩; rw [HT2.out] at hl5; have HL5 := Lib.hid hl5; clear hl5 HL4)
    have hh := here_b HL5.out
    rw [at2, e2, placeS_small _ (by omega)] at hh
    have HH := Lib.hid hh
    clear hh
    have co := HOP.out w5 (.inr HL5.out.bl)
    go_upto_region 17 with (first | (go_at_call 27; refine HH.out.mono ?_; rintro e w6 ⟨rfl, rfl⟩) | (go_at_call 28; refine (jump_b HL5.out (jI (opJ k) 0) nmX (jI_j k hk) (jI_ok k hk 0 (by decide) (by decide) (by decide)) (by omega) (by omega)).mono ?_; rintro e w6 ⟨rfl, hl6⟩; have HL6 := Lib.hid hl6; clear hl6 HL5))
    have e3 : (T2.jump (jI (opJ k) 0) nmX).n = n1 + n2 + 1 := by show T2.n + 1 = _; rw [e2]
    obtain ⟨T3, hT3⟩ : ∃ T3, fillS (T2.jump (jI (opJ k) 0) nmX) n2 = T3 := ⟨_, rfl⟩
    have s3 := fill_same (T2.jump (jI (opJ k) 0) nmX) n2
    have m3 := fillS_n (T2.jump (jI (opJ k) 0) nmX) n2
    rw [hT3] at s3 m3
    have e4 : T3.n = n1 + 2 * n2 + 1 := by rw [m3, e3]; omega
    have cn3 : T3.cnt ≤ 1 := by rw [s3.2.1]; exact cn2
    have HD3 := Lib.hid s3.2.2.1
    have HT3 := Lib.hid hT3
    clear s3 m3 hT3 co
    go_upto_region 18 with (go_at_call 25; refine (fill_b HL6.out n2 (by omega)).mono ?_; rintro e w7 ⟨rfl, hl7⟩; rw [HT3.out] at hl7; have HL7 := Lib.hid hl7; clear hl7 HL6)
    have HL8 := HL7
    go_upto_region 20 with (fail)
    have hpl : (T3).app (fun _ => nop) 1 = playB n1 n2 (opJ k) := by rw [← HT3.out, ← HT2.out, ← HT1.out]; rfl
    have hjp := playB_jp n1 n2 k
    have hnn := playB_n n1 n2 (opJ k)
    obtain ⟨PS, hPS⟩ : ∃ PS, playB n1 n2 (opJ k) = PS := ⟨_, rfl⟩
    rw [hPS] at hpl hjp hnn
    have HPUT := Lib.hid (put1_b HL8.out nop (by omega) nop_e)
    rw [hpl] at HPUT
    have HJP := Lib.hid hjp
    obtain ⟨hgd, hat⟩ := hjp.land hk (by omega) (by omega)
    have HGD := Lib.hid hgd
    have HAT := Lib.hid hat
    clear hpl hPS hjp hgd hat HL8 HT3 HT2 HT1 HD2 HD3 d1 j1 cn1 at1 j2 at2 cn2 cn3 e1 e2 e3 e4 HH HL7
    go_upto_region 21 with (go_at_call 29; refine HPUT.out.mono ?_; rintro e w9 ⟨rfl, hl9⟩; have HL9 := Lib.hid hl9; clear hl9 HPUT)
    have hw21 := words_jp HL9.out HJP.out (by omega) HGD.out
    have HW21 := Lib.hid hw21
    clear hw21
    go_upto_region 24 with (first | (go_at_call 22; refine HW21.out.mono ?_; rintro e w10 ⟨g, rfl, hgl, hcs, hb10⟩; have HL10 := Lib.hid (HL9.out.past hb10); have cg := hcs (n1 + n2) (by omega); rw [HAT.out] at cg; have HGL := Lib.hid hgl; clear hcs hgl hb10 HL9) | (go_at_call 30; refine (where_jp HL10.out HJP.out (by omega)).mono ?_; rintro e w11 ⟨rfl, rfl⟩))
    have hdec := fun V => dec_in (jI (opJ k) (4 * (((n1 : Nat) : Int) - ((n1 + n2 : Nat) : Int)))) (jI_ok k hk _ (by omega) (by omega) (by omega)) V
    have hlt : n1 + n2 < n1 + 2 * n2 + 2 := by omega
    have hsum : IntKind.u64.wrap (1048576 + 4 * ((n1 : Int) + n2) + IntKind.u64.wrap (4 * (((n1 : Nat) : Int) - ((n1 + n2 : Nat) : Int)))) = 1048576 + 4 * ((n1 : Int)) := by rw [IntKind.wrap_u64, IntKind.wrap_u64]; omega
    rw [show (1048576 + 4 * ((n1 : Int) + n2) - 1048576) / 4 = ((n1 + n2 : Nat) : Int) by omega]
    obtain ⟨x, hx⟩ : ∃ x, jI (opJ k) (4 * (((n1 : Nat) : Int) - ((n1 + n2 : Nat) : Int))) = x := ⟨_, rfl⟩
    have hxv : x.v = .agg #[.int .i64 (opJ k), .int .i64 0, .int .i64 0, .int .i64 0, .int .i64 0, .int .i64 0, .int .i64 (4 * (((n1 : Nat) : Int) - ((n1 + n2 : Nat) : Int)))] := by rw [← hx]; rfl
    rw [hx] at cg hdec
    obtain ⟨xw, hxw⟩ : ∃ xw, x.w = xw := ⟨_, rfl⟩
    rw [hxw, hxv] at hdec
    rw [hxw] at cg
    obtain ⟨q, hq⟩ : ∃ q, 4 * (((n1 : Nat) : Int) - ((n1 + n2 : Nat) : Int)) = q := ⟨_, rfl⟩
    rw [hq] at hdec hsum
    obtain ⟨a, ha⟩ : ∃ a, n1 + n2 = a := ⟨_, rfl⟩
    rw [ha] at cg hlt
    rw [ha]
    obtain ⟨N, hN⟩ : ∃ N, n1 + 2 * n2 + 2 = N := ⟨_, rfl⟩
    rw [hN] at hlt
    try rw [hN]
    obtain ⟨fr, hfr⟩ : ∃ fr, 1048576 + 4 * ((n1 : Int) + n2) = fr := ⟨_, rfl⟩
    rw [hfr] at hsum
    try rw [hfr]
    obtain ⟨tt, htt⟩ : ∃ tt, 1048576 + 4 * ((n1 : Int)) = tt := ⟨_, rfl⟩
    rw [htt] at hsum
    try rw [htt]
    obtain ⟨o, hoo⟩ : ∃ o, opJ k = o := ⟨_, rfl⟩
    have co := HOP.out w10 (.inr HL10.out.bl)
    rw [hoo] at co hdec
    have hltb : (a : Int) < IntKind.u64.wrap (N : Int) := by rw [IntKind.wrap_u64]; omega
    have HDEC := Lib.hid hdec
    have HSUM := Lib.hid hsum
    have hbw := HW.out.trans (HL10.out.bl.mono (by omega))
    have HBW := Lib.hid hbw
    have hgw := HGL.out
    have hobl : ob < w10.heap.size := World.block_lt_of_cell? w10 ⟨ob, k, none⟩ co
    clear hdec hsum hxv hx hxw hq hfr htt hoo HAT HGD HJP HW21 HW hbw
    have cgd : w10.drew.cell? ⟨g, a, none⟩ = some (.int .u32 xw) := cg
    have cod : w10.drew.cell? ⟨ob, k, none⟩ = some (.int .i64 o) := co
    refine wp_narrow7 ?_
    refine wp_region_held_drew (S := fun w' => w'.cell? ⟨g, a, none⟩ = some (.int .u32 xw) ∧ w'.cell? ⟨ob, k, none⟩ = some (.int .i64 o)) (by kernel_rfl) ⟨cgd, cod⟩ (fun hHeld => ?_)
    refine wpAnyH_take (i := 0) (oi := { dst := some 87, op := Go.Op.move (Go.Operand.tmp 13), type := 32, pos := "law.go:185", after := #[], guard := none }) (v := ?_) rfl (by kernel_rfl) (by kernel_rfl) (by kernel_rfl) (fun _ _ _ h => h) (Or.inl ⟨by rfl, ?_⟩) (by assumption) ?_
    rotate_left
    · (intro w0 hSw; (try dsimp only at hSw); go_split_ands; go_simp; with_reducible rfl)
    try simp only [Act.put, List.setIfInBounds_toArray, List.set_cons_zero, List.set_cons_succ]
    refine wpAnyH_take (i := 1) (oi := { dst := some 88, op := Go.Op.binOp Go.BinOp.eql 3 (Go.Operand.tmp 87) (Go.Operand.const (Go.Value.int Go.IntKind.i64 0)) 3, type := 4, pos := "law.go:185", after := #[{ on := 0, ground := Go.Ground.data }], guard := none }) (v := ?_) rfl (by kernel_rfl) (by kernel_rfl) (by kernel_rfl) (fun _ _ _ h => h) (Or.inl ⟨by rfl, ?_⟩) (by assumption) ?_
    rotate_left
    · (intro w0 hSw; (try dsimp only at hSw); go_split_ands; go_simp; with_reducible rfl)
    try simp only [Act.put, List.setIfInBounds_toArray, List.set_cons_zero, List.set_cons_succ]
    refine wpAnyH_take (i := 2) (oi := { dst := some 89, op := Go.Op.move (Go.Operand.tmp 88), type := 4, pos := "law.go:185", after := #[{ on := 1, ground := Go.Ground.data }], guard := none }) (v := ?_) rfl (by kernel_rfl) (by kernel_rfl) (by kernel_rfl) (fun _ _ _ h => h) (Or.inl ⟨by rfl, ?_⟩) (by assumption) ?_
    rotate_left
    · (intro w0 hSw; (try dsimp only at hSw); go_split_ands; go_simp; with_reducible rfl)
    try simp only [Act.put, List.setIfInBounds_toArray, List.set_cons_zero, List.set_cons_succ]
    refine wpAnyH_take (i := 3) (oi := { dst := some 90, op := Go.Op.move (Go.Operand.tmp 15), type := 4, pos := "law.go:185", after := #[{ on := 2, ground := Go.Ground.guard }], guard := some (2, true) }) (v := ?_) rfl (by kernel_rfl) (by kernel_rfl) (by kernel_rfl) (fun _ _ _ h => h) (Or.inl ⟨by rfl, ?_⟩) (by assumption) ?_
    rotate_left
    · (intro w0 hSw; (try dsimp only at hSw); go_split_ands; go_simp; with_reducible rfl)
    try simp only [Act.put, List.setIfInBounds_toArray, List.set_cons_zero, List.set_cons_succ]
    refine wpAnyH_take (i := 4) (oi := { dst := some 91, op := Go.Op.pick (Go.Operand.tmp 89) (Go.Operand.tmp 90) (Go.Operand.const (Go.Value.bool false)), type := 4, pos := "law.go:185", after := #[{ on := 2, ground := Go.Ground.data }, { on := 3, ground := Go.Ground.data }], guard := none }) (v := ?_) rfl (by kernel_rfl) (by kernel_rfl) (by kernel_rfl) (fun _ _ _ h => h) (Or.inl ⟨by rfl, ?_⟩) (by assumption) ?_
    rotate_left
    · (intro w0 hSw; (try dsimp only at hSw); go_split_ands; go_simp; with_reducible rfl)
    try simp only [Act.put, List.setIfInBounds_toArray, List.set_cons_zero, List.set_cons_succ]
    refine wpAnyH_take (i := 5) (oi := { dst := some 92, op := Go.Op.move (Go.Operand.tmp 91), type := 4, pos := "law.go:185", after := #[{ on := 4, ground := Go.Ground.data }, { on := 2, ground := Go.Ground.chain }], guard := none }) (v := ?_) rfl (by kernel_rfl) (by kernel_rfl) (by kernel_rfl) (fun _ _ _ h => h) (Or.inl ⟨by rfl, ?_⟩) (by assumption) ?_
    rotate_left
    · (intro w0 hSw; (try dsimp only at hSw); go_split_ands; go_simp; with_reducible rfl)
    try simp only [Act.put, List.setIfInBounds_toArray, List.set_cons_zero, List.set_cons_succ]
    refine wpAnyH_take (i := 6) (oi := { dst := some 93, op := Go.Op.move (Go.Operand.tmp 16), type := 23, pos := "law.go:185", after := #[{ on := 5, ground := Go.Ground.guard }], guard := some (5, true) }) (v := ?_) rfl (by kernel_rfl) (by kernel_rfl) (by kernel_rfl) (fun _ _ _ h => h) (Or.inl ⟨by rfl, ?_⟩) (by assumption) ?_
    rotate_left
    · (intro w0 hSw; (try dsimp only at hSw); go_split_ands; go_simp; with_reducible rfl)
    try simp only [Act.put, List.setIfInBounds_toArray, List.set_cons_zero, List.set_cons_succ]
    refine wpAnyH_take (i := 7) (oi := { dst := some 94, op := Go.Op.move (Go.Operand.tmp 12), type := 46, pos := "law.go:185", after := #[{ on := 5, ground := Go.Ground.guard }], guard := some (5, true) }) (v := ?_) rfl (by kernel_rfl) (by kernel_rfl) (by kernel_rfl) (fun _ _ _ h => h) (Or.inl ⟨by rfl, ?_⟩) (by assumption) ?_
    rotate_left
    · (intro w0 hSw; (try dsimp only at hSw); go_split_ands; go_simp; with_reducible rfl)
    try simp only [Act.put, List.setIfInBounds_toArray, List.set_cons_zero, List.set_cons_succ]
    refine wpAnyH_take (i := 8) (oi := { dst := some 95, op := Go.Op.call { callee := Go.Callee.builtin Go.Builtin.len, args := #[Go.Operand.tmp 94], argTypes := #[46] }, type := 3, pos := "law.go:185", after := #[{ on := 7, ground := Go.Ground.data }, { on := 5, ground := Go.Ground.guard }], guard := some (5, true) }) (v := ?_) rfl (by kernel_rfl) (by kernel_rfl) (by kernel_rfl) (fun _ _ _ h => h) (Or.inl ⟨by rfl, ?_⟩) (by assumption) ?_
    rotate_left
    · (intro w0 hSw; (try dsimp only at hSw); go_split_ands; go_simp; with_reducible rfl)
    try simp only [Act.put, List.setIfInBounds_toArray, List.set_cons_zero, List.set_cons_succ]
    refine wpAnyH_take (i := 9) (oi := { dst := some 96, op := Go.Op.convert 3 23 (Go.Operand.tmp 95), type := 23, pos := "law.go:185", after := #[{ on := 8, ground := Go.Ground.data }, { on := 5, ground := Go.Ground.guard }], guard := some (5, true) }) (v := ?_) rfl (by kernel_rfl) (by kernel_rfl) (by kernel_rfl) (fun _ _ _ h => h) (Or.inl ⟨by rfl, ?_⟩) (by assumption) ?_
    rotate_left
    · (intro w0 hSw; (try dsimp only at hSw); go_split_ands; go_simp; with_reducible rfl)
    try simp only [Act.put, List.setIfInBounds_toArray, List.set_cons_zero, List.set_cons_succ]
    refine wpAnyH_take (i := 10) (oi := { dst := some 97, op := Go.Op.binOp Go.BinOp.lss 23 (Go.Operand.tmp 93) (Go.Operand.tmp 96) 23, type := 4, pos := "law.go:185", after := #[{ on := 6, ground := Go.Ground.data }, { on := 9, ground := Go.Ground.data }, { on := 5, ground := Go.Ground.guard }], guard := some (5, true) }) (v := .bool true) rfl (by kernel_rfl) (by kernel_rfl) (by kernel_rfl) (fun _ _ _ h => h) (Or.inl ⟨by rfl, ?_⟩) (by assumption) ?_
    · (intro w0 hSw; (try dsimp only at hSw); go_split_ands; go_simp)
    try simp only [Act.put, List.setIfInBounds_toArray, List.set_cons_zero, List.set_cons_succ]
    refine wpAnyH_take (i := 11) (oi := { dst := some 98, op := Go.Op.pick (Go.Operand.tmp 92) (Go.Operand.tmp 97) (Go.Operand.const (Go.Value.bool false)), type := 4, pos := "law.go:185", after := #[{ on := 5, ground := Go.Ground.data }, { on := 10, ground := Go.Ground.data }], guard := none }) (v := ?_) rfl (by kernel_rfl) (by kernel_rfl) (by kernel_rfl) (fun _ _ _ h => h) (Or.inl ⟨by rfl, ?_⟩) (by assumption) ?_
    rotate_left
    · (intro w0 hSw; (try dsimp only at hSw); go_split_ands; go_simp; with_reducible rfl)
    try simp only [Act.put, List.setIfInBounds_toArray, List.set_cons_zero, List.set_cons_succ]
    refine wpAnyH_take (i := 12) (oi := { dst := some 99, op := Go.Op.move (Go.Operand.tmp 98), type := 4, pos := "law.go:185", after := #[{ on := 11, ground := Go.Ground.data }, { on := 5, ground := Go.Ground.chain }], guard := none }) (v := ?_) rfl (by kernel_rfl) (by kernel_rfl) (by kernel_rfl) (fun _ _ _ h => h) (Or.inl ⟨by rfl, ?_⟩) (by assumption) ?_
    rotate_left
    · (intro w0 hSw; (try dsimp only at hSw); go_split_ands; go_simp; with_reducible rfl)
    try simp only [Act.put, List.setIfInBounds_toArray, List.set_cons_zero, List.set_cons_succ]
    refine wpAnyH_take (i := 13) (oi := { dst := some 100, op := Go.Op.move (Go.Operand.tmp 11), type := 23, pos := "law.go:185", after := #[{ on := 12, ground := Go.Ground.guard }], guard := some (12, true) }) (v := ?_) rfl (by kernel_rfl) (by kernel_rfl) (by kernel_rfl) (fun _ _ _ h => h) (Or.inl ⟨by rfl, ?_⟩) (by assumption) ?_
    rotate_left
    · (intro w0 hSw; (try dsimp only at hSw); go_split_ands; go_simp; with_reducible rfl)
    try simp only [Act.put, List.setIfInBounds_toArray, List.set_cons_zero, List.set_cons_succ]
    refine wpAnyH_take (i := 14) (oi := { dst := some 101, op := Go.Op.move (Go.Operand.tmp 12), type := 46, pos := "law.go:185", after := #[{ on := 12, ground := Go.Ground.guard }], guard := some (12, true) }) (v := ?_) rfl (by kernel_rfl) (by kernel_rfl) (by kernel_rfl) (fun _ _ _ h => h) (Or.inl ⟨by rfl, ?_⟩) (by assumption) ?_
    rotate_left
    · (intro w0 hSw; (try dsimp only at hSw); go_split_ands; go_simp; with_reducible rfl)
    try simp only [Act.put, List.setIfInBounds_toArray, List.set_cons_zero, List.set_cons_succ]
    refine wpAnyH_take (i := 15) (oi := { dst := some 102, op := Go.Op.move (Go.Operand.tmp 16), type := 23, pos := "law.go:185", after := #[{ on := 12, ground := Go.Ground.guard }], guard := some (12, true) }) (v := ?_) rfl (by kernel_rfl) (by kernel_rfl) (by kernel_rfl) (fun _ _ _ h => h) (Or.inl ⟨by rfl, ?_⟩) (by assumption) ?_
    rotate_left
    · (intro w0 hSw; (try dsimp only at hSw); go_split_ands; go_simp; with_reducible rfl)
    try simp only [Act.put, List.setIfInBounds_toArray, List.set_cons_zero, List.set_cons_succ]
    refine wpAnyH_take (i := 16) (oi := { dst := some 103, op := Go.Op.indexAddr 46 (Go.Operand.tmp 101) (Go.Operand.tmp 102), type := 0, pos := "law.go:185", after := #[{ on := 14, ground := Go.Ground.data }, { on := 15, ground := Go.Ground.data }, { on := 12, ground := Go.Ground.guard }], guard := some (12, true) }) (v := ?_) rfl (by kernel_rfl) (by kernel_rfl) (by kernel_rfl) (fun _ _ _ h => h) (Or.inl ⟨by rfl, ?_⟩) (by assumption) ?_
    rotate_left
    · (intro w0 hSw; (try dsimp only at hSw); go_split_ands; go_simp; with_reducible rfl)
    try simp only [Act.put, List.setIfInBounds_toArray, List.set_cons_zero, List.set_cons_succ]
    refine wpAnyH_take (i := 17) (oi := { dst := some 104, op := Go.Op.load 54 (Go.Operand.tmp 103), type := 54, pos := "law.go:185", after := #[{ on := 16, ground := Go.Ground.data }, { on := 12, ground := Go.Ground.guard }], guard := some (12, true) }) (v := ?_) rfl (by kernel_rfl) (by kernel_rfl) (by kernel_rfl) (fun _ _ _ h => h) (Or.inl ⟨by rfl, ?_⟩) (by assumption) ?_
    rotate_left
    · (intro w0 hSw; (try dsimp only at hSw); go_split_ands; go_simp; with_reducible rfl)
    try simp only [Act.put, List.setIfInBounds_toArray, List.set_cons_zero, List.set_cons_succ]
    refine wpAnyH_take (i := 22) (oi := { dst := some 109, op := Go.Op.move (Go.Operand.tmp 14), type := 23, pos := "law.go:185", after := #[{ on := 12, ground := Go.Ground.guard }], guard := some (12, true) }) (v := ?_) rfl (by kernel_rfl) (by kernel_rfl) (by kernel_rfl) (fun _ _ _ h => h) (Or.inl ⟨by rfl, ?_⟩) (by assumption) ?_
    rotate_left
    · (intro w0 hSw; (try dsimp only at hSw); go_split_ands; go_simp; with_reducible rfl)
    try simp only [Act.put, List.setIfInBounds_toArray, List.set_cons_zero, List.set_cons_succ]
    have hz0 : w10.drew.heap.size = w10.heap.size := rfl
    have hB0 : Below w.heap.size w w10.drew := HBW.out.drew
    have hwl : w.heap.size ≤ w10.heap.size := HBW.out.size
    have hf6 : ∀ W : World, (Instr.field 29 (.agg #[.int .i64 o, .int .i64 0, .int .i64 0, .int .i64 0, .int .i64 0, .int .i64 0, .int .i64 q]) 6).run Try.prog W = .ok (.int .i64 q) W := fun W => by kernel_rfl
    have hf0 : ∀ W : World, (Instr.field 29 (.agg #[.int .i64 o, .int .i64 0, .int .i64 0, .int .i64 0, .int .i64 0, .int .i64 0, .int .i64 q]) 0).run Try.prog W = .ok (.int .i64 o) W := fun W => by kernel_rfl
    have hsm := HSUM.out
    refine wpAnyH_ready (rs := [18]) (by kernel_rfl) (by simp) ?_
    refine AllReadyH.cons (o := { dst := some 105, op := Go.Op.call { callee := Go.Callee.value (Go.Operand.func 24), args := #[Go.Operand.tmp 104], argTypes := #[54] }, type := 29, pos := "law.go:185", after := #[{ on := 17, ground := Go.Ground.data }, { on := 12, ground := Go.Ground.chain }, { on := 12, ground := Go.Ground.guard }], guard := some (12, true) }) rfl (fun K hK => ?_) AllReadyH.nil
    go_simp
    go_at_call 24
    refine (HDEC.out _).mono ?_
    rintro e u1 ⟨rfl, hbu1⟩
    have cgu1 := (hbu1.cell (p := ⟨g, a, none⟩) (show g < _ by omega)).trans cgd
    have cou1 := (hbu1.cell (p := ⟨ob, k, none⟩) (show ob < _ by omega)).trans cod
    have hzu1 := hbu1.size
    have hBu1 := hB0.trans (hbu1.mono (by omega))
    refine hK.out _ _ ⟨cgu1, cou1⟩ (fun hHeld => ?_)
    clear hK K
    try simp only [Act.put, List.setIfInBounds_toArray, List.set_cons_zero, List.set_cons_succ]
    refine wpAnyH_take (i := 19) (oi := { dst := some 106, op := Go.Op.field 29 (Go.Operand.tmp 105) 6, type := 2, pos := "law.go:185", after := #[{ on := 18, ground := Go.Ground.data }, { on := 12, ground := Go.Ground.guard }], guard := some (12, true) }) (v := ?_) rfl (by kernel_rfl) (by kernel_rfl) (by kernel_rfl) (fun _ _ _ h => h) (Or.inl ⟨by rfl, ?_⟩) (by assumption) ?_
    rotate_left
    · (intro w0 hSw; (try dsimp only at hSw); go_split_ands; go_simp; with_reducible rfl)
    try simp only [Act.put, List.setIfInBounds_toArray, List.set_cons_zero, List.set_cons_succ]
    refine wpAnyH_take (i := 20) (oi := { dst := some 107, op := Go.Op.convert 2 23 (Go.Operand.tmp 106), type := 23, pos := "law.go:185", after := #[{ on := 19, ground := Go.Ground.data }, { on := 12, ground := Go.Ground.guard }], guard := some (12, true) }) (v := ?_) rfl (by kernel_rfl) (by kernel_rfl) (by kernel_rfl) (fun _ _ _ h => h) (Or.inl ⟨by rfl, ?_⟩) (by assumption) ?_
    rotate_left
    · (intro w0 hSw; (try dsimp only at hSw); go_split_ands; go_simp; with_reducible rfl)
    try simp only [Act.put, List.setIfInBounds_toArray, List.set_cons_zero, List.set_cons_succ]
    refine wpAnyH_take (i := 21) (oi := { dst := some 108, op := Go.Op.binOp Go.BinOp.add 23 (Go.Operand.tmp 100) (Go.Operand.tmp 107) 23, type := 23, pos := "law.go:185", after := #[{ on := 13, ground := Go.Ground.data }, { on := 20, ground := Go.Ground.data }, { on := 12, ground := Go.Ground.guard }], guard := some (12, true) }) (v := .int .u64 tt) rfl (by kernel_rfl) (by kernel_rfl) (by kernel_rfl) (fun _ _ _ h => h) (Or.inl ⟨by rfl, ?_⟩) (by assumption) ?_
    · (intro w0 hSw; (try dsimp only at hSw); go_split_ands; go_simp; (try rw [hsm]); (try with_reducible rfl))
    try simp only [Act.put, List.setIfInBounds_toArray, List.set_cons_zero, List.set_cons_succ]
    refine wpAnyH_take (i := 23) (oi := { dst := some 110, op := Go.Op.binOp Go.BinOp.eql 23 (Go.Operand.tmp 108) (Go.Operand.tmp 109) 23, type := 4, pos := "law.go:185", after := #[{ on := 21, ground := Go.Ground.data }, { on := 22, ground := Go.Ground.data }, { on := 12, ground := Go.Ground.guard }], guard := some (12, true) }) (v := .bool true) rfl (by kernel_rfl) (by kernel_rfl) (by kernel_rfl) (fun _ _ _ h => h) (Or.inl ⟨by rfl, ?_⟩) (by assumption) ?_
    · (intro w0 hSw; (try dsimp only at hSw); go_split_ands; go_simp; (try simp))
    try simp only [Act.put, List.setIfInBounds_toArray, List.set_cons_zero, List.set_cons_succ]
    refine wpAnyH_take (i := 24) (oi := { dst := some 111, op := Go.Op.pick (Go.Operand.tmp 99) (Go.Operand.tmp 110) (Go.Operand.const (Go.Value.bool false)), type := 4, pos := "law.go:185", after := #[{ on := 12, ground := Go.Ground.data }, { on := 23, ground := Go.Ground.data }], guard := none }) (v := ?_) rfl (by kernel_rfl) (by kernel_rfl) (by kernel_rfl) (fun _ _ _ h => h) (Or.inl ⟨by rfl, ?_⟩) (by assumption) ?_
    rotate_left
    · (intro w0 hSw; (try dsimp only at hSw); go_split_ands; go_simp; with_reducible rfl)
    try simp only [Act.put, List.setIfInBounds_toArray, List.set_cons_zero, List.set_cons_succ]
    refine wpAnyH_take (i := 25) (oi := { dst := some 112, op := Go.Op.move (Go.Operand.tmp 111), type := 4, pos := "law.go:185", after := #[{ on := 24, ground := Go.Ground.data }, { on := 18, ground := Go.Ground.chain }], guard := none }) (v := ?_) rfl (by kernel_rfl) (by kernel_rfl) (by kernel_rfl) (fun _ _ _ h => h) (Or.inl ⟨by rfl, ?_⟩) (by assumption) ?_
    rotate_left
    · (intro w0 hSw; (try dsimp only at hSw); go_split_ands; go_simp; with_reducible rfl)
    try simp only [Act.put, List.setIfInBounds_toArray, List.set_cons_zero, List.set_cons_succ]
    refine wpAnyH_take (i := 26) (oi := { dst := some 113, op := Go.Op.move (Go.Operand.tmp 12), type := 46, pos := "law.go:185", after := #[{ on := 25, ground := Go.Ground.guard }], guard := some (25, true) }) (v := ?_) rfl (by kernel_rfl) (by kernel_rfl) (by kernel_rfl) (fun _ _ _ h => h) (Or.inl ⟨by rfl, ?_⟩) (by assumption) ?_
    rotate_left
    · (intro w0 hSw; (try dsimp only at hSw); go_split_ands; go_simp; with_reducible rfl)
    try simp only [Act.put, List.setIfInBounds_toArray, List.set_cons_zero, List.set_cons_succ]
    refine wpAnyH_take (i := 27) (oi := { dst := some 114, op := Go.Op.move (Go.Operand.tmp 16), type := 23, pos := "law.go:185", after := #[{ on := 25, ground := Go.Ground.guard }], guard := some (25, true) }) (v := ?_) rfl (by kernel_rfl) (by kernel_rfl) (by kernel_rfl) (fun _ _ _ h => h) (Or.inl ⟨by rfl, ?_⟩) (by assumption) ?_
    rotate_left
    · (intro w0 hSw; (try dsimp only at hSw); go_split_ands; go_simp; with_reducible rfl)
    try simp only [Act.put, List.setIfInBounds_toArray, List.set_cons_zero, List.set_cons_succ]
    refine wpAnyH_take (i := 28) (oi := { dst := some 115, op := Go.Op.indexAddr 46 (Go.Operand.tmp 113) (Go.Operand.tmp 114), type := 0, pos := "law.go:185", after := #[{ on := 26, ground := Go.Ground.data }, { on := 27, ground := Go.Ground.data }, { on := 25, ground := Go.Ground.guard }], guard := some (25, true) }) (v := ?_) rfl (by kernel_rfl) (by kernel_rfl) (by kernel_rfl) (fun _ _ _ h => h) (Or.inl ⟨by rfl, ?_⟩) (by assumption) ?_
    rotate_left
    · (intro w0 hSw; (try dsimp only at hSw); go_split_ands; go_simp; with_reducible rfl)
    try simp only [Act.put, List.setIfInBounds_toArray, List.set_cons_zero, List.set_cons_succ]
    refine wpAnyH_take (i := 29) (oi := { dst := some 116, op := Go.Op.load 54 (Go.Operand.tmp 115), type := 54, pos := "law.go:185", after := #[{ on := 28, ground := Go.Ground.data }, { on := 25, ground := Go.Ground.guard }], guard := some (25, true) }) (v := ?_) rfl (by kernel_rfl) (by kernel_rfl) (by kernel_rfl) (fun _ _ _ h => h) (Or.inl ⟨by rfl, ?_⟩) (by assumption) ?_
    rotate_left
    · (intro w0 hSw; (try dsimp only at hSw); go_split_ands; go_simp; with_reducible rfl)
    try simp only [Act.put, List.setIfInBounds_toArray, List.set_cons_zero, List.set_cons_succ]
    refine wpAnyH_take (i := 32) (oi := { dst := some 119, op := Go.Op.move (Go.Operand.tmp 9), type := 36, pos := "law.go:185", after := #[{ on := 25, ground := Go.Ground.guard }], guard := some (25, true) }) (v := ?_) rfl (by kernel_rfl) (by kernel_rfl) (by kernel_rfl) (fun _ _ _ h => h) (Or.inl ⟨by rfl, ?_⟩) (by assumption) ?_
    rotate_left
    · (intro w0 hSw; (try dsimp only at hSw); go_split_ands; go_simp; with_reducible rfl)
    try simp only [Act.put, List.setIfInBounds_toArray, List.set_cons_zero, List.set_cons_succ]
    refine wpAnyH_take (i := 33) (oi := { dst := some 120, op := Go.Op.move (Go.Operand.tmp 3), type := 3, pos := "law.go:185", after := #[{ on := 25, ground := Go.Ground.guard }], guard := some (25, true) }) (v := ?_) rfl (by kernel_rfl) (by kernel_rfl) (by kernel_rfl) (fun _ _ _ h => h) (Or.inl ⟨by rfl, ?_⟩) (by assumption) ?_
    rotate_left
    · (intro w0 hSw; (try dsimp only at hSw); go_split_ands; go_simp; with_reducible rfl)
    try simp only [Act.put, List.setIfInBounds_toArray, List.set_cons_zero, List.set_cons_succ]
    refine wpAnyH_take (i := 34) (oi := { dst := some 121, op := Go.Op.indexAddr 36 (Go.Operand.tmp 119) (Go.Operand.tmp 120), type := 0, pos := "law.go:185", after := #[{ on := 32, ground := Go.Ground.data }, { on := 33, ground := Go.Ground.data }, { on := 25, ground := Go.Ground.guard }], guard := some (25, true) }) (v := ?_) rfl (by kernel_rfl) (by kernel_rfl) (by kernel_rfl) (fun _ _ _ h => h) (Or.inl ⟨by rfl, ?_⟩) (by assumption) ?_
    rotate_left
    · (intro w0 hSw; (try dsimp only at hSw); go_split_ands; go_simp; with_reducible rfl)
    try simp only [Act.put, List.setIfInBounds_toArray, List.set_cons_zero, List.set_cons_succ]
    refine wpAnyH_take (i := 35) (oi := { dst := some 122, op := Go.Op.load 3 (Go.Operand.tmp 121), type := 3, pos := "law.go:185", after := #[{ on := 34, ground := Go.Ground.data }, { on := 25, ground := Go.Ground.guard }], guard := some (25, true) }) (v := ?_) rfl (by kernel_rfl) (by kernel_rfl) (by kernel_rfl) (fun _ _ _ h => h) (Or.inl ⟨by rfl, ?_⟩) (by assumption) ?_
    rotate_left
    · (intro w0 hSw; (try dsimp only at hSw); go_split_ands; go_simp; with_reducible rfl)
    try simp only [Act.put, List.setIfInBounds_toArray, List.set_cons_zero, List.set_cons_succ]
    refine wpAnyH_ready (rs := [30]) (by kernel_rfl) (by simp) ?_
    refine AllReadyH.cons (o := { dst := some 117, op := Go.Op.call { callee := Go.Callee.value (Go.Operand.func 24), args := #[Go.Operand.tmp 116], argTypes := #[54] }, type := 29, pos := "law.go:185", after := #[{ on := 29, ground := Go.Ground.data }, { on := 25, ground := Go.Ground.chain }, { on := 25, ground := Go.Ground.guard }], guard := some (25, true) }) rfl (fun K hK => ?_) AllReadyH.nil
    go_simp
    go_at_call 24
    refine (HDEC.out _).mono ?_
    rintro e u2 ⟨rfl, hbu2⟩
    have cgu2 := (hbu2.cell (p := ⟨g, a, none⟩) (show g < _ by omega)).trans cgu1
    have cou2 := (hbu2.cell (p := ⟨ob, k, none⟩) (show ob < _ by omega)).trans cou1
    have hzu2 := hbu2.size
    have hBu2 := hBu1.trans (hbu2.mono (by omega))
    refine hK.out _ _ ⟨cgu2, cou2⟩ (fun hHeld => ?_)
    clear hK K
    try simp only [Act.put, List.setIfInBounds_toArray, List.set_cons_zero, List.set_cons_succ]
    refine wpAnyH_take (i := 31) (oi := { dst := some 118, op := Go.Op.field 29 (Go.Operand.tmp 117) 0, type := 3, pos := "law.go:185", after := #[{ on := 30, ground := Go.Ground.data }, { on := 25, ground := Go.Ground.guard }], guard := some (25, true) }) (v := ?_) rfl (by kernel_rfl) (by kernel_rfl) (by kernel_rfl) (fun _ _ _ h => h) (Or.inl ⟨by rfl, ?_⟩) (by assumption) ?_
    rotate_left
    · (intro w0 hSw; (try dsimp only at hSw); go_split_ands; go_simp; with_reducible rfl)
    try simp only [Act.put, List.setIfInBounds_toArray, List.set_cons_zero, List.set_cons_succ]
    refine wpAnyH_take (i := 36) (oi := { dst := some 123, op := Go.Op.binOp Go.BinOp.eql 3 (Go.Operand.tmp 118) (Go.Operand.tmp 122) 3, type := 4, pos := "law.go:185", after := #[{ on := 31, ground := Go.Ground.data }, { on := 35, ground := Go.Ground.data }, { on := 25, ground := Go.Ground.guard }], guard := some (25, true) }) (v := .bool true) rfl (by kernel_rfl) (by kernel_rfl) (by kernel_rfl) (fun _ _ _ h => h) (Or.inl ⟨by rfl, ?_⟩) (by assumption) ?_
    · (intro w0 hSw; (try dsimp only at hSw); go_split_ands; go_simp; (try simp))
    try simp only [Act.put, List.setIfInBounds_toArray, List.set_cons_zero, List.set_cons_succ]
    refine wpAnyH_take (i := 37) (oi := { dst := some 124, op := Go.Op.pick (Go.Operand.tmp 112) (Go.Operand.tmp 123) (Go.Operand.const (Go.Value.bool false)), type := 4, pos := "law.go:185", after := #[{ on := 25, ground := Go.Ground.data }, { on := 36, ground := Go.Ground.data }], guard := none }) (v := ?_) rfl (by kernel_rfl) (by kernel_rfl) (by kernel_rfl) (fun _ _ _ h => h) (Or.inl ⟨by rfl, ?_⟩) (by assumption) ?_
    rotate_left
    · (intro w0 hSw; (try dsimp only at hSw); go_split_ands; go_simp; with_reducible rfl)
    try simp only [Act.put, List.setIfInBounds_toArray, List.set_cons_zero, List.set_cons_succ]
    refine wpAnyH_take (i := 38) (oi := { dst := some 8, op := Go.Op.assign (Go.Operand.tmp 124), type := 4, pos := "law.go:185", after := #[{ on := 37, ground := Go.Ground.data }, { on := 30, ground := Go.Ground.chain }, { on := 0, ground := Go.Ground.phase }, { on := 1, ground := Go.Ground.phase }, { on := 2, ground := Go.Ground.phase }, { on := 3, ground := Go.Ground.phase }, { on := 4, ground := Go.Ground.phase }, { on := 5, ground := Go.Ground.phase }, { on := 6, ground := Go.Ground.phase }, { on := 7, ground := Go.Ground.phase }, { on := 8, ground := Go.Ground.phase }, { on := 9, ground := Go.Ground.phase }, { on := 10, ground := Go.Ground.phase }, { on := 11, ground := Go.Ground.phase }, { on := 12, ground := Go.Ground.phase }, { on := 13, ground := Go.Ground.phase }, { on := 14, ground := Go.Ground.phase }, { on := 15, ground := Go.Ground.phase }, { on := 16, ground := Go.Ground.phase }, { on := 17, ground := Go.Ground.phase }, { on := 18, ground := Go.Ground.phase }, { on := 19, ground := Go.Ground.phase }, { on := 20, ground := Go.Ground.phase }, { on := 21, ground := Go.Ground.phase }, { on := 22, ground := Go.Ground.phase }, { on := 23, ground := Go.Ground.phase }, { on := 24, ground := Go.Ground.phase }, { on := 25, ground := Go.Ground.phase }, { on := 26, ground := Go.Ground.phase }, { on := 27, ground := Go.Ground.phase }, { on := 28, ground := Go.Ground.phase }, { on := 29, ground := Go.Ground.phase }, { on := 30, ground := Go.Ground.phase }, { on := 31, ground := Go.Ground.phase }, { on := 32, ground := Go.Ground.phase }, { on := 33, ground := Go.Ground.phase }, { on := 34, ground := Go.Ground.phase }, { on := 35, ground := Go.Ground.phase }, { on := 36, ground := Go.Ground.phase }, { on := 37, ground := Go.Ground.phase }], guard := none }) (v := ?_) rfl (by kernel_rfl) (by kernel_rfl) (by kernel_rfl) (fun _ _ _ h => h) (Or.inl ⟨by rfl, ?_⟩) (by assumption) ?_
    rotate_left
    · (intro w0 hSw; (try dsimp only at hSw); go_split_ands; go_simp; with_reducible rfl)
    try simp only [Act.put, List.setIfInBounds_toArray, List.set_cons_zero, List.set_cons_succ]
    refine wpAnyH_done (by kernel_rfl) ?_ _
    clear hHeld
    go_wp2
    go_ret
    exact ⟨rfl, hBu2⟩
end Go.Proofs.Ytnbpgoacooddjaa.Lab
