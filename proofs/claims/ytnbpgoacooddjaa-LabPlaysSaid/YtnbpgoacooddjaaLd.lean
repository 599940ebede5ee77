import Derived.Test.YtnbpgoacooddjaaLc
namespace Go.Proofs.Ytnbpgoacooddjaa.Lab
open Go.ChangeShapes Go.WideShapes Go.ChangeAt Go.RowKit Go.Maps
open Go.Proofs.Ytnbpgoacooddjaa.En
set_option linter.unusedVariables false
attribute [local go_sem] rowAt_drew rowAt_drewN
def Lb.app (S : Lb) (G : Nat → In) (m : Nat) : Lb := { S with n := S.n + m, F := catI S.F S.n G }
/-- What a change leaves: code again, with new blocks besides its own. -/
def LbP (w : World) (FP : Nat → Prop) (p : Nat) (S' : Lb) (mb : Nat) (v3 : Value) (bx bY bz : Nat → Nat) (w' : World) : Prop :=
  ∃ (FP' : Nat → Prop) (v1' : Value), LbC w' FP' p S' mb v1' v3 bx bY bz ∧ (∀ k, FP' k → FP k ∨ w.heap.size ≤ k) ∧ (∀ k, FP k → FP' k) ∧ Kp FP w w'
theorem LbP.of {w w' : World} {FP : Nat → Prop} {p : Nat} {S' : Lb} {mb : Nat} {v1 v3 : Value} {bx bY bz : Nat → Nat} (h : LbC w' FP p S' mb v1 v3 bx bY bz) (hk : Kp FP w w') : LbP w FP p S' mb v3 bx bY bz w' :=
  ⟨FP, v1, h, fun k hk => .inl hk, fun k hk => hk, hk⟩
theorem LbP.after {w w1 w' : World} {FP : Nat → Prop} {p : Nat} {S' : Lb} {mb : Nat} {v3 : Value} {bx bY bz : Nat → Nat} (h : LbP w1 FP p S' mb v3 bx bY bz w') (hk : Kp FP w w1) : LbP w FP p S' mb v3 bx bY bz w' := by
  obtain ⟨FP', v1', h1, h2, h3, h4⟩ := h
  exact ⟨FP', v1', h1, fun k hf => (h2 k hf).imp id (fun h => Nat.le_trans hk.size h), h3, hk.trans h4 fun k hf => .inl hf⟩
section
variable {w : World} {FP : Nat → Prop} {p mb : Nat} {S : Lb} {v1 v3 : Value} {bx bY bz : Nat → Nat}
/-- Behind an append to its instructions, and the store of them. -/
theorem LbC.apped (h : LbC w FP p S mb v1 v3 bx bY bz) {w1 : World} {v' : Value} {G : Nat → In} {m : Nat} (ho : w1.ownsRow 0 29 7 v' (S.n + m) (insL S.F S.n ++ insL G m)) (hg : w.grownBy w1 v1.ownBlock) (hl : v'.ownBlock = v1.ownBlock ∨ v'.ownBlock = some w.heap.size) (hn : S.n + m ≤ 65536) :
    LbP w FP p (S.app G m) mb v3 bx bY bz (w1.setCell ⟨p, 1, none⟩ v') := by
  have hp1 : w1.heap[p]? = some (.cells (cellsL S.at0 v1 mb v3 S.err) 149 (0, 0)) := (hg.block p (h.fl p h.fp) (fun e => h.p1 e.symm rfl)).trans h.row
  have hne : ∀ k, k ≠ p → (w1.setCell ⟨p, 1, none⟩ v').heap[k]? = w1.heap[k]? := fun k hk => Below.heap_setCell _ _ _ _ hk
  have hown : ∀ g, v'.ownBlock = some g → g ≠ p := fun g hg' => by
    obtain ⟨cur, hc⟩ := own_heap ho hg'
    exact ne_of_obj hc hp1 (ne_ty (by decide))
  refine ⟨fun k => FP k ∨ v'.ownBlock = some k, v', ?_, fun k hf => ?_, fun k hf => .inl hf, ?_⟩
  · refine h.turn (S.app G m) v' ?_ (fun k hf hnp hno => (hne k hnp).trans (hg.block k (h.fl k hf) (fun e => hno e.symm))) ⟨rfl, rfl⟩ ?_ ⟨rfl, rfl, rfl⟩ (fun g hg => .inr hg) (fun k hf => .inl hf) (fun k hf => ?_) hn
    · exact setP_heap hp1
    · refine ownsRow_kept ?_ fun g hg' => hne g (hown g hg')
      show w1.ownsRow 0 29 7 v' (S.n + m) (insL (catI S.F S.n G) (S.n + m))
      rw [← insL_cat]
      exact ho
    · have hs : (w1.setCell ⟨p, 1, none⟩ v').heap.size = w1.heap.size := by simp
      rw [hs]
      rcases hf with hf | hf
      · exact Nat.lt_of_lt_of_le (h.fl k hf) hg.size
      · obtain ⟨cur, hc⟩ := own_heap ho hf
        exact (Array.getElem?_eq_some_iff.1 hc).1
  · rcases hf with hf | hf
    · exact .inl hf
    · rcases hl with hl | hl
      · exact .inl (h.f1 k (hl.symm.trans hf))
      · rw [hl] at hf
        injection hf with hf
        exact .inr (Nat.le_of_eq hf)
  · exact (Kp.of_grown hg (fun b hb => h.f1 b hb)).trans (kp_set (FP := FP) w1 p 1 v' h.fp) fun k hf => .inl hf
end
theorem SrcI_kp {w w' : World} {FP : Nat → Prop} {A : Option Addr} {n : Nat} {F : Nat → In} (h : SrcI w A n F) (hk : Kp FP w w') (hA : ∀ b off, A = some ⟨b, off, none⟩ → ¬ FP b) : SrcI w' A n F := by
  rcases h with h | ⟨b, off, rfl, hb, hc⟩
  · exact .inl h
  · refine .inr ⟨b, off, rfl, Nat.lt_of_lt_of_le hb hk.size, fun j hj => ?_⟩
    have g : ∀ q, w'.cell? ⟨b, q, none⟩ = w.cell? ⟨b, q, none⟩ := fun q => by
      unfold World.cell?
      rw [show w'.heap[(⟨b, q, none⟩ : Addr).block]? = w.heap[(⟨b, q, none⟩ : Addr).block]? from hk.block b hb (hA b off rfl)]
    obtain ⟨c0, c1, c2, c3, c4, c5, c6⟩ := hc j hj
    exact ⟨(g _).trans c0, (g _).trans c1, (g _).trans c2, (g _).trans c3, (g _).trans c4, (g _).trans c5, (g _).trans c6⟩
set_option maxRecDepth 100000 in
set_option maxHeartbeats 4000000 in
theorem put_bad (w : World) (FP : Nat → Prop) (p : Nat) (S : Lb) (mb : Nat) (v1 v3 : Value) (bx bY bz : Nat → Nat) (A : Option Addr) (m cap : Nat) (G : Nat → In) (h : LbC w FP p S mb v1 v3 bx bY bz) (hm : m ≤ 9223372036854775807) (HS : Hid (SrcI w A m G)) (hb : ¬ good G m) :
    Calls Try.prog 29 #[.pointer (some ⟨p, 0, none⟩), .slice A m cap] w fun e w' => e = .returned (.tuple #[]) ∧ LbP w FP p (S.fail 1) mb v3 bx bY bz w' := by
  have H := Lib.hid h
  have HN := Lib.hid hb
  clear h hb
  go_enter Try.func29, Try.ntmps29
  go_wp2_with (first | (go_at_call 108; refine (contains_c A m cap G _ hm HS).mono ?_; rintro e w1 ⟨⟨b, rfl, hr⟩, hb1⟩; obtain rfl : b = true := (by rcases hr with ⟨h1, _⟩ | ⟨_, h2⟩; exact absurd h1 HN.out; exact h2); have HB1 := Lib.hid hb1; clear hr hb1) | (go_at_call 80; refine (fail_c _ FP p S mb v1 v3 bx bY bz 1 (H.out.past HB1.out)).mono ?_; rintro e w2 ⟨rfl, hc2, hk2⟩; have HC2 := Lib.hid hc2; have HK2 := Lib.hid hk2; clear hc2 hk2))
  refine bodyPost_ret (results_none rfl _ _ _) rfl ⟨rfl, LbP.of HC2.out ((Kp.of_below HB1.out).trans HK2.out fun k hf => .inl hf)⟩
set_option maxRecDepth 100000 in
set_option maxHeartbeats 4000000 in
theorem put_y (w : World) (FP : Nat → Prop) (p : Nat) (S : Lb) (mb : Nat) (v1 v3 : Value) (bx bY bz : Nat → Nat) (A : Option Addr) (m cap : Nat) (G : Nat → In) (h : LbC w FP p S mb v1 v3 bx bY bz) (hm : S.n + m ≤ 65536) (HS : Hid (SrcI w A m G)) (hb : good G m) :
    Calls Try.prog 29 #[.pointer (some ⟨p, 0, none⟩), .slice A m cap] w fun e w' => e = .returned (.tuple #[]) ∧ LbP w FP p (S.app G m) mb v3 bx bY bz w' := by
  have H := Lib.hid h
  have HN := Lib.hid hb
  clear h hb
  obtain ⟨a1, cp1, rfl, _⟩ := own_form H.out.ins
  go_enter Try.func29, Try.ntmps29
  go_wp2_with (first | (go_at_call 108; refine (contains_c A m cap G _ (by omega) HS).mono ?_; rintro e w1 ⟨⟨b, rfl, hr⟩, hb1⟩; obtain rfl : b = false := (by rcases hr with ⟨_, h2⟩ | ⟨h1, _⟩; exact h2; exact absurd HN.out h1); have HB1 := Lib.hid hb1; have HC1 := Lib.hid (H.out.past hb1); have HS1 := Lib.hid (HS.out.past hb1); have c1 := rowAt_cell HC1.out.rw 1; simp only [cellsL] at c1; clear hr hb1) | (at_builtin; refine wpl_append7 rfl _ _ rfl 0 _ S.n _ rfl HC1.out.ins A m cap G rfl HS1.out (by omega) (Nat.zero_le _) ?_; intro v' w2 ho hg hl; obtain ⟨a2, cp2, rfl, _⟩ := own_form ho; have HP2 := Lib.hid (HC1.out.apped ho hg hl hm); have hrow : rowAt w2 p = some (cellsL S.at0 (.slice a1 S.n cp1) mb v3 S.err) := rowAt_of ((hg.block p (HC1.out.fl p HC1.out.fp) (fun e => HC1.out.p1 e.symm rfl)).trans HC1.out.row); have c1' := rowAt_cell hrow 1; have f1' := rowAt_frz hrow 1; simp only [cellsL] at c1'; clear ho hg hl hrow))
  go_end0
  exact ⟨rfl, HP2.out.after (Kp.of_below HB1.out)⟩
set_option maxRecDepth 100000 in
set_option maxHeartbeats 4000000 in
theorem put_m (w : World) (FP : Nat → Prop) (p : Nat) (S : Lb) (mb : Nat) (v1 v3 : Value) (bx bY bz : Nat → Nat) (A : Option Addr) (m cap : Nat) (G : Nat → In) (h : LbC w FP p S mb v1 v3 bx bY bz) (hm : 65536 < S.n + m) (hm2 : m ≤ 9223372036854775807) (hcap : m ≤ cap) (hA : ∀ b off, A = some ⟨b, off, none⟩ → ¬ FP b) (HS : Hid (SrcI w A m G)) (hb : good G m) :
    Calls Try.prog 29 #[.pointer (some ⟨p, 0, none⟩), .slice A m cap] w fun e w' => e = .returned (.tuple #[]) ∧ LbP w FP p ((S.fail 2).app G (65536 - S.n)) mb v3 bx bY bz w' := by
  have H := Lib.hid h
  have HN := Lib.hid hb
  have hnl := h.nl
  clear h hb
  obtain ⟨k, hk⟩ : ∃ k, 65536 - S.n = k := ⟨_, rfl⟩
  have hk' : (65536 : Int) - S.n = k := by omega
  have hkm : k < m := by omega
  obtain ⟨b, off, rfl, hbl, hin⟩ : ∃ b off, A = some ⟨b, off, none⟩ ∧ b < w.heap.size ∧ InsAt w b off m G := by
    rcases HS.out with h | h
    · omega
    · exact h
  have HSk : Hid (SrcI w (some ⟨b, off, none⟩) k G) := Lib.hid (.inr ⟨b, off, rfl, hbl, fun j hj => hin j (by omega)⟩)
  have HA := Lib.hid hA
  clear hin hbl hA
  have hn : (S.fail 2).n = S.n := by unfold Lb.fail; split <;> rfl
  have hF : (S.fail 2).F = S.F := by unfold Lb.fail; split <;> rfl
  obtain ⟨T, hT⟩ : ∃ T, S.fail 2 = T := ⟨_, rfl⟩
  rw [hT] at hn hF
  rw [hk, hT]
  have HT := Lib.hid hT
  clear hT
  obtain ⟨a1, cp1, rfl, _⟩ := own_form H.out.ins
  go_enter Try.func29, Try.ntmps29
  go_wp2_with (first | (go_at_call 108; refine (contains_c (some ⟨b, off, none⟩) m cap G _ hm2 HS).mono ?_; rintro e w1 ⟨⟨b, rfl, hr⟩, hb1⟩; obtain rfl : b = false := (by rcases hr with ⟨_, h2⟩ | ⟨h1, _⟩; exact h2; exact absurd HN.out h1); have HB1 := Lib.hid hb1; have HC1 := Lib.hid (H.out.past hb1); have HS1 := Lib.hid (HSk.out.past hb1); have c1 := rowAt_cell HC1.out.rw 1; simp only [cellsL] at c1; clear hr hb1) | (go_at_call 80; refine (fail_c _ FP p S mb _ v3 bx bY bz 2 HC1.out).mono ?_; rintro e w2 ⟨rfl, hc2, hk2⟩; rw [HT.out] at hc2; have HC2 := Lib.hid hc2; have HK2 := Lib.hid hk2; have HS2 := Lib.hid (SrcI_kp HS1.out hk2 HA.out); have c1 := rowAt_cell hc2.rw 1; simp only [cellsL] at c1; have HI2 : Hid (w2.ownsRow 0 29 7 (.slice a1 S.n cp1) S.n (insL S.F S.n)) := Lib.hid (by rw [← hn, ← hF]; have := hc2.ins; rwa [hn] at this ⊢); clear hc2 hk2) | (at_builtin; refine wpl_append7 rfl _ _ rfl 0 _ S.n _ rfl HI2.out (some ⟨b, off, none⟩) k cap G rfl HS2.out (by omega) (Nat.zero_le _) ?_; intro v' w3 ho hg hl; obtain ⟨a2, cp2, rfl, _⟩ := own_form ho; have HP3 := Lib.hid (HC2.out.apped (m := k) (by rw [hn, hF]; exact ho) hg hl (by omega)); have hrow : rowAt w3 p = some (cellsL T.at0 (.slice a1 S.n cp1) mb v3 T.err) := rowAt_of ((hg.block p (HC2.out.fl p HC2.out.fp) (fun e => HC2.out.p1 e.symm rfl)).trans HC2.out.row); have c1' := rowAt_cell hrow 1; have f1' := rowAt_frz hrow 1; simp only [cellsL] at c1'; clear ho hg hl hrow))
  go_end0
  exact ⟨rfl, (HP3.out.after HK2.out).after (Kp.of_below HB1.out)⟩
end Go.Proofs.Ytnbpgoacooddjaa.Lab
