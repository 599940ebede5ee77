import Derived.StillTailTactics
import Derived.Deep.CutRange
import Derived.Laws.BitsLemmas
import Derived.IntWalk
import Derived.Laws.BitsAllLaws
import Derived.Deep.DrawnRows
import Derived.Test.YtpiafgmncfibmaaVj
import Derived.Test.YtpiafgmncfibmaaRows
import Derived.WalkKit
import Derived.ProofKit
import Derived.OpenShut
import Derived.Deep.QuietTactic
import Derived.BigQuiet
import Derived.Outline
import Derived.WalkSmall
import Derived.WalkLawsBesides
import Derived.WalkSpells
import Derived.BigGuardPart
import Derived.RegionTactic
import Derived.Deep.RegionHeld3
import Derived.Lib.Hide
import Derived.Deep.MidRow
import Derived.Below
import Derived.Deep.RegionWith
import Derived.Deep.OwnRows
import Derived.Deep.AppendLies
import Derived.Deep.RegionLaw
import Derived.Deep.CutBlock
import Derived.Deep.DeepCutAuto
namespace Go.Proofs.Ytpiafgmncfibmaa.Vf
open Go.ChangeShapes Go.WideShapes Go.ChangeAt Go.RowKit
set_option linter.unusedVariables false

/-- What is right of each bytecode that has been read. -/
def Rdy (K : Fk) (O : Nat → Bool) : Prop := ∀ k, k < K.n → O k = true → rdE K.n K.D k = 0 ∧ nmB K.P K.m (K.D k) (opA K.D k) (opB K.D k) = true ∧ (jumpB (K.D k) = true → 0 ≤ (k : Int) + opA K.D k ∧ jmp K.D k < K.n)
theorem wrap16_bd (n : Int) : -32768 ≤ IntKind.i16.wrap n ∧ IntKind.i16.wrap n ≤ 32767 := by rw [wrap16]; omega
theorem wrap8_bd (n : Int) : -32768 ≤ IntKind.i8.wrap n ∧ IntKind.i8.wrap n ≤ 32767 := by rw [wrap8]; omega
def EffQ (P : Pg) (m c : Nat) (a b : Int) (s : Sh) (w : World) (e : Ending) (w' : World) : Prop := ∃ ra rc sh, e = .returned (.tuple #[.agg #[.slice ra sh.l.length rc, .int .i64 sh.h], .int .i64 (effE P m c a b s)]) ∧ Below w.heap.size w w' ∧ (effE P m c a b s = 0 → sh = effS P m c a b s ∧ Ints w' ra sh.l ∧ sh.l.length ≤ rc ∧ ∀ p, ra = some p → w.heap.size ≤ p.block)
theorem EffR.q {P : Pg} {m c : Nat} {a b : Int} {s : Sh} {w w' : World} {e : Ending} (h : EffR P m c a b s w e w') : EffQ P m c a b s w e w' := by
  unfold EffR at h
  unfold EffQ
  split at h
  · rename_i h0
    obtain ⟨a', c', he, h1, h2, h3, h4⟩ := h
    exact ⟨a', c', effS P m c a b s, by rw [h0]; exact he, h4, fun _ => ⟨rfl, h1, h2, h3⟩⟩
  · rename_i h0
    exact ⟨none, 0, ⟨[], 0⟩, h.1, h.2, fun q => absurd q h0⟩
structure StB (K : Fk) (O : Nat → Bool) (F : Fl) (X : Fx) (lo k : Nat) (w V : World) : Prop where
  f : FlC K V O F X lo
  r : Fr K w V
  x : Bx V w.heap.size #[.int .i64 (K.D k : Nat), .int .i64 (opA K.D k), .int .i64 (opB K.D k), .int .i64 (szK (kindO (K.D k)) : Nat)] 74
theorem StB.below {K : Fk} {O : Nat → Bool} {F : Fl} {X : Fx} {lo k : Nat} {w V V' : World} (h : StB K O F X lo k w V) (hb : Below V.heap.size V V') : StB K O F X lo k w V' := ⟨h.f.below hb, h.r.trans (Fr.below hb), h.x.below hb⟩
def StepP (K : Fk) (w : World) (O : Nat → Bool) (F : Fl) (lo k : Nat) (e : Ending) (w' : World) : Prop := ∃ X' lo', e = .returned (.int .i64 (stE K.P K.m K.n K.D (K.P.sk K.m) F k)) ∧ FlC K w' O (stF K.P K.m K.n K.D (K.P.sk K.m) F k) X' lo' ∧ Fr K w w' ∧ lo' ≤ lo ∧ ∀ j, (stF K.P K.m K.n K.D (K.P.sk K.m) F k).H j = true → F.H j = false → lo' ≤ j
section
variable (P : Pg) (m n : Nat) (D : Nat → Nat) (stk : Int) (F : Fl) (k : Nat)
theorem st_a {er : Int} (h : effE P m (D k) (opA D k) (opB D k) (F.S k) = er) (h0 : er ≠ 0) : stE P m n D stk F k = er ∧ stF P m n D stk F k = F := by
  have hp : preE P m D stk F k = er := by unfold preE; rw [if_pos (by rw [h]; exact h0), h]
  unfold stE stF
  rw [hp, if_pos h0, if_pos h0]
  exact ⟨rfl, rfl⟩
theorem st_b (h : effE P m (D k) (opA D k) (opB D k) (F.S k) = 0) (h0 : stk < (beh P m D F k).l.length ∨ D k = 28 ∧ 0 < (beh P m D F k).l.length) : stE P m n D stk F k = 22 ∧ stF P m n D stk F k = F := by
  have hp : preE P m D stk F k = 22 := by unfold preE; rw [if_neg (by rw [h]; decide), if_pos h0]
  unfold stE stF
  rw [hp, if_pos (by decide), if_pos (by decide)]
  exact ⟨rfl, rfl⟩
theorem st_c (h : effE P m (D k) (opA D k) (opB D k) (F.S k) = 0) (h0 : ¬ (stk < (beh P m D F k).l.length ∨ D k = 28 ∧ 0 < (beh P m D F k).l.length)) (h1 : D k = 28) (h2 : (beh P m D F k).h ≠ 0) : stE P m n D stk F k = 25 ∧ stF P m n D stk F k = F := by
  have hp : preE P m D stk F k = 25 := by unfold preE; rw [if_neg (by rw [h]; decide), if_neg h0, if_pos ⟨h1, h2⟩]
  unfold stE stF
  rw [hp, if_pos (by decide), if_pos (by decide)]
  exact ⟨rfl, rfl⟩
theorem st_ok (h : effE P m (D k) (opA D k) (opB D k) (F.S k) = 0) (h0 : ¬ (stk < (beh P m D F k).l.length ∨ D k = 28 ∧ 0 < (beh P m D F k).l.length)) (h1 : ¬ (D k = 28 ∧ (beh P m D F k).h ≠ 0)) : stE P m n D stk F k = (if onE P m n D F k ≠ 0 then onE P m n D F k else jmE D (onF P m n D F k) k (beh P m D F k)) ∧ stF P m n D stk F k = (if onE P m n D F k ≠ 0 then onF P m n D F k else jmF D (onF P m n D F k) k (beh P m D F k)) := by
  have hp : preE P m D stk F k = 0 := by unfold preE; rw [if_neg (by rw [h]; decide), if_neg h0, if_neg h1]
  unfold stE stF
  rw [hp]
  exact ⟨if_neg (fun q => q rfl), if_neg (fun q => q rfl)⟩
theorem on_off (h : onB (D k) = false) : onE P m n D F k = 0 ∧ onF P m n D F k = F := by
  unfold onE onF
  rw [h]
  exact ⟨rfl, rfl⟩
theorem on_end (h : onB (D k) = true) (hn : nxt D k = n) : onE P m n D F k = 26 ∧ onF P m n D F k = F := by
  unfold onE onF
  rw [h, if_pos rfl, if_pos rfl, if_pos hn, if_pos hn]
  exact ⟨rfl, rfl⟩
theorem on_go (h : onB (D k) = true) (hn : nxt D k ≠ n) : onE P m n D F k = reachE F (nxt D k) (beh P m D F k) ∧ onF P m n D F k = reachF F (nxt D k) (beh P m D F k) := by
  unfold onE onF
  rw [h, if_pos rfl, if_pos rfl, if_neg hn, if_neg hn]
  exact ⟨rfl, rfl⟩
theorem jm_off (F' : Fl) (s : Sh) (h : jumpB (D k) = false) : jmE D F' k s = 0 ∧ jmF D F' k s = F' := by
  unfold jmE jmF
  rw [h]
  exact ⟨rfl, rfl⟩
theorem jm_go (F' : Fl) (s : Sh) (h : jumpB (D k) = true) : jmE D F' k s = reachE F' (jmp D k) s ∧ jmF D F' k s = reachF F' (jmp D k) s := by
  unfold jmE jmF
  rw [h, if_pos rfl, if_pos rfl]
  exact ⟨rfl, rfl⟩
end
theorem reachF_H (F : Fl) (k : Nat) (s : Sh) (j : Nat) (h : (reachF F k s).H j = true) (hF : F.H j = false) : j = k ∧ F.H k = false := by
  unfold reachF at h
  split at h
  · rename_i hk
    simp only [set1] at h
    split at h
    · rename_i hjk
      exact ⟨hjk, hk⟩
    · rw [hF] at h
      cases h
  · rw [hF] at h
    cases h
theorem reach_lo {F : Fl} {lo lo' k : Nat} {s : Sh} (h : lo' = if F.H k = true then lo else min lo k) : lo' ≤ lo ∧ ∀ j, (reachF F k s).H j = true → F.H j = false → lo' ≤ j := by
  by_cases hk : F.H k = true
  · rw [if_pos hk] at h
    subst h
    refine ⟨Nat.le_refl _, fun j h1 h2 => ?_⟩
    obtain ⟨rfl, h3⟩ := reachF_H F k s j h1 h2
    rw [hk] at h3
    cases h3
  · rw [if_neg hk] at h
    subst h
    refine ⟨Nat.min_le_left _ _, fun j h1 h2 => ?_⟩
    obtain ⟨rfl, h3⟩ := reachF_H F k s j h1 h2
    exact Nat.min_le_right _ _
theorem StQ.below {K : Fk} {O : Nat → Bool} {F : Fl} {X : Fx} {lo k : Nat} {w : World} {t6 : Nat} {ra : Option Addr} {rc : Nat} {sh : Sh} {V V' : World} (h : StB K O F X lo k w V ∧ Bx V t6 #[.slice ra sh.l.length rc, .int .i64 sh.h] 71 ∧ Ints V ra sh.l) (hb : Below V.heap.size V V') : StB K O F X lo k w V' ∧ Bx V' t6 #[.slice ra sh.l.length rc, .int .i64 sh.h] 71 ∧ Ints V' ra sh.l := ⟨h.1.below hb, h.2.1.below hb, h.2.2.kept (Kept.of hb)⟩
theorem effS_len {P : Pg} {m c : Nat} {a b : Int} {s : Sh} (h : effE P m c a b s = 0) (hh0 : 0 ≤ s.h) (hh1 : s.h ≤ 10) : 0 ≤ (effS P m c a b s).h ∧ (effS P m c a b s).h ≤ 10 := by
  unfold effE at h
  split at h
  · cases h
  split at h
  · cases h
  split at h
  · cases h
  rename_i h3
  show 0 ≤ heldN c s.h ∧ heldN c s.h ≤ 10
  unfold heldN
  split
  · omega
  · split <;> omega
theorem StB.make {K : Fk} {O : Nat → Bool} {F : Fl} {X : Fx} {lo k : Nat} {w W : World} (h : StB K O F X lo k w W) : ∃ V t6, V = W.alloc (.cells #[.slice none 0 0, .int .i64 0] 71) ∧ t6 = W.heap.size ∧ Bx V t6 #[.slice none 0 0, .int .i64 0] 71 ∧ K.hi ≤ t6 ∧ w.heap.size < t6 ∧ Below W.heap.size W V :=
  ⟨_, _, rfl, rfl, Bx.new _ _ _, h.f.hi, h.x.lt, (Below.refl _ _).alloc (Nat.le_refl _) _⟩
theorem below_set2 {W V : World} {t6 : Nat} (h : Below W.heap.size W V) (ht : W.heap.size ≤ t6) (a b : Value) : Below W.heap.size W ((V.setCell ⟨t6, 0, none⟩ a).setCell ⟨t6, 1, none⟩ b) := (h.setCell (p := ⟨t6, 0, none⟩) ht a).setCell (p := ⟨t6, 1, none⟩) ht b
/-- What stands behind Effect's call in step. -/
def StQ (K : Fk) (O : Nat → Bool) (F : Fl) (X : Fx) (lo k : Nat) (w : World) (t6 : Nat) (ra : Option Addr) (rc : Nat) (sh : Sh) (V : World) : Prop :=
  StB K O F X lo k w V ∧ Bx V t6 #[.slice ra sh.l.length rc, .int .i64 sh.h] 71 ∧ K.hi ≤ t6 ∧ w.heap.size < t6 ∧ (effE K.P K.m (K.D k) (opA K.D k) (opB K.D k) (F.S k) = 0 → sh = effS K.P K.m (K.D k) (opA K.D k) (opB K.D k) (F.S k) ∧ Ints V ra sh.l ∧ sh.l.length ≤ rc ∧ ∀ p, ra = some p → K.hi ≤ p.block)
set_option maxRecDepth 100000 in
set_option maxHeartbeats 8000000 in
theorem step_c (K : Fk) (hK : FkOk K) (O : Nat → Bool) (F : Fl) (X : Fx) (lo k : Nat) (w : World) (h : FlC K w O F X lo) (hR : Rdy K O) (hk : k < K.n) (hO : O k = true) : Calls Try.prog 119 #[.pointer (some ⟨K.f, 0, none⟩), .int .i64 k] w (StepP K w O F lo k) := by
  have HF := Lib.hid h
  have HK := Lib.hid hK
  have HRd := Lib.hid hR
  have n1 := hK.n1
  obtain ⟨hrd, hnm, hjm⟩ := hR k hk hO
  have hD41 : K.D k < 41 := by unfold rdE at hrd; split at hrd <;> omega
  have HJm := Lib.hid hjm
  have HNx : Hid (k + szK (kindO (K.D k)) ≤ K.n) := Lib.hid (by unfold rdE at hrd; split at hrd; omega; split at hrd <;> omega)
  have hki : (k : Int) < K.n := by omega
  have HEf : Hid (∀ V, StB K O F X lo k w V → Calls Try.prog 32 #[.agg #[.slice K.A.pa K.P.np K.A.pc, .slice K.A.ca K.P.nc K.A.cc, .slice K.A.ma K.P.nm K.A.mc], .int .i64 K.m, .agg #[.int .i64 (K.D k : Nat), .int .i64 (opA K.D k), .int .i64 (opB K.D k), .int .i64 (szK (kindO (K.D k)) : Nat)], .agg #[.slice (X.a k) (F.S k).l.length (X.c k), .int .i64 (F.S k).h]] V (EffQ K.P K.m (K.D k) (opA K.D k) (opB K.D k) (F.S k) V)) := Lib.hid fun V hV => (effect_c K.P K.A K.m (K.D k) (opA K.D k) (opB K.D k) _ (F.S k) (X.a k) (X.c k) V (hK.at'.kept (Kept.of hV.f.b)) hK.fit hK.cap hK.m hnm hD41 (hV.f.ti k hk) (hV.f.tc k hk) (by have := hV.f.tl k hk; omega) (hV.f.t0 k hk) (hV.f.t1 k hk)).mono fun e w' he => EffR.q he
  have x0 : w.cell? ⟨K.ro, k * 4, none⟩ = some (.int .i64 (K.D k : Nat)) := (h.o.cell (j := 0) hk (by omega)).trans (by unfold opF; rw [if_pos hO]; rfl)
  have x1 : w.cell? ⟨K.ro, k * 4 + 1, none⟩ = some (.int .i64 (opA K.D k)) := (h.o.cell (j := 1) hk (by omega)).trans (by unfold opF; rw [if_pos hO]; rfl)
  have x2 : w.cell? ⟨K.ro, k * 4 + 2, none⟩ = some (.int .i64 (opB K.D k)) := (h.o.cell (j := 2) hk (by omega)).trans (by unfold opF; rw [if_pos hO]; rfl)
  have x3 : w.cell? ⟨K.ro, k * 4 + 3, none⟩ = some (.int .i64 (szK (kindO (K.D k)) : Nat)) := (h.o.cell (j := 3) hk (by omega)).trans (by unfold opF; rw [if_pos hO]; rfl)
  have f5 : w.cell? ⟨K.f, 5, none⟩ = some (.slice (some ⟨K.ro, 0, none⟩) K.n K.n) := HF.out.f.cell 5
  clear h hR hrd hnm hjm
  obtain ⟨W1, hW1⟩ : ∃ V, V = w.alloc (.cells #[.int .i64 (K.D k : Nat), .int .i64 (opA K.D k), .int .i64 (opB K.D k), .int .i64 (szK (kindO (K.D k)) : Nat)] 74) := ⟨_, rfl⟩
  have HB : Hid (StB K O F X lo k w W1) := Lib.hid (by
    rw [hW1]
    exact ⟨HF.out.below ((Below.refl _ _).alloc (Nat.le_refl _) _), Fr.below ((Below.refl _ _).alloc (Nat.le_refl _) _), Bx.new _ _ _⟩)
  have HW1 := Lib.hid hW1
  clear hW1 hO
  have HHO : Hid (∀ V, StB K O F X lo k w V → V.cell? ⟨K.f, 0, none⟩ = some (.slice K.A.pa K.P.np K.A.pc) ∧ V.cell? ⟨K.f, 1, none⟩ = some (.slice K.A.ca K.P.nc K.A.cc) ∧ V.cell? ⟨K.f, 2, none⟩ = some (.slice K.A.ma K.P.nm K.A.mc) ∧ V.cell? ⟨K.f, 3, none⟩ = some (.int .i64 K.m) ∧ V.cell? ⟨K.f, 6, none⟩ = some (.slice (some ⟨K.rs, 0, none⟩) K.n K.n) ∧ V.cell? ⟨w.heap.size, 0, none⟩ = some (.int .i64 (K.D k : Nat)) ∧ V.cell? ⟨w.heap.size, 1, none⟩ = some (.int .i64 (opA K.D k)) ∧ V.cell? ⟨w.heap.size, 2, none⟩ = some (.int .i64 (opB K.D k)) ∧ V.cell? ⟨w.heap.size, 3, none⟩ = some (.int .i64 (szK (kindO (K.D k)) : Nat)) ∧ V.cell? ⟨K.rs, k * 2, none⟩ = some (.slice (X.a k) (F.S k).l.length (X.c k)) ∧ V.cell? ⟨K.rs, k * 2 + 1, none⟩ = some (.int .i64 (F.S k).h)) := Lib.hid fun V h => ⟨h.f.f.cell 0, h.f.f.cell 1, h.f.f.cell 2, h.f.f.cell 3, h.f.f.cell 6, h.x.cell 0, h.x.cell 1, h.x.cell 2, h.x.cell 3, h.f.s.cell (j := 0) hk (by omega), h.f.s.cell (j := 1) hk (by omega)⟩
  obtain ⟨er, her⟩ : ∃ er, effE K.P K.m (K.D k) (opA K.D k) (opB K.D k) (F.S k) = er := ⟨_, rfl⟩
  have HEr := Lib.hid her
  clear her
  go_enter Try.func119, Try.ntmps119
  go_upto_region 2 with fail
  rw [← HW1.out]
  clear x0 x1 x2 x3 f5
  go_cut [6, 7] from 17 to 36 (fun s6 s7 wx => ∃ t6 ra rc sh, s6 = .pointer (some ⟨t6, 0, none⟩) ∧ s7 = .int .i64 er ∧ StQ K O F X lo k w t6 ra rc sh wx)
  case first =>
    have HBd : Hid (StB K O F X lo k w W1.drew) := Lib.hid (HB.out.below (Below.refl _ _).drew)
    clear HB
    refine region_e 22 (fun w' => w'.cell? ⟨K.f, 0, none⟩ = some (.slice K.A.pa K.P.np K.A.pc) ∧ w'.cell? ⟨K.f, 1, none⟩ = some (.slice K.A.ca K.P.nc K.A.cc) ∧ w'.cell? ⟨K.f, 2, none⟩ = some (.slice K.A.ma K.P.nm K.A.mc) ∧ w'.cell? ⟨K.f, 3, none⟩ = some (.int .i64 K.m) ∧ w'.cell? ⟨K.f, 6, none⟩ = some (.slice (some ⟨K.rs, 0, none⟩) K.n K.n) ∧ w'.cell? ⟨w.heap.size, 0, none⟩ = some (.int .i64 (K.D k : Nat)) ∧ w'.cell? ⟨w.heap.size, 1, none⟩ = some (.int .i64 (opA K.D k)) ∧ w'.cell? ⟨w.heap.size, 2, none⟩ = some (.int .i64 (opB K.D k)) ∧ w'.cell? ⟨w.heap.size, 3, none⟩ = some (.int .i64 (szK (kindO (K.D k)) : Nat)) ∧ w'.cell? ⟨K.rs, k * 2, none⟩ = some (.slice (X.a k) (F.S k).l.length (X.c k)) ∧ w'.cell? ⟨K.rs, k * 2 + 1, none⟩ = some (.int .i64 (F.S k).h)) (by kernel_rfl) (HHO.out _ HBd.out) (fun hHeld => ?_)
    generalize W1.drew = u0 at hHeld HBd ⊢
    refine AnyE.take2 (i := 0) [] (oi := { dst := some 17, op := Go.Op.move (Go.Operand.tmp 0), type := 112, pos := "verify.go:130", after := #[], guard := none }) (v := ?_) rfl (by kernel_rfl) (by kernel_rfl) (by kernel_rfl) (by kernel_rfl) (fun _ _ _ h => h) (Or.inl ⟨by rfl, ?_⟩) (by assumption) ?_
    rotate_left
    · (intro w0 hSw; (try dsimp only at hSw); go_split_ands; go_simp; with_reducible rfl)
    try simp only [Act.put, List.setIfInBounds_toArray, List.set_cons_zero, List.set_cons_succ]
    refine AnyE.take2 (i := 1) [] (oi := { dst := some 18, op := Go.Op.nilCheck (Go.Operand.tmp 17), type := 0, pos := "verify.go:130", after := #[{ on := 0, ground := Go.Ground.data }], guard := none }) (v := ?_) rfl (by kernel_rfl) (by kernel_rfl) (by kernel_rfl) (by kernel_rfl) (fun _ _ _ h => h) (Or.inl ⟨by rfl, ?_⟩) (by assumption) ?_
    rotate_left
    · (intro w0 hSw; (try dsimp only at hSw); go_split_ands; go_simp; with_reducible rfl)
    try simp only [Act.put, List.setIfInBounds_toArray, List.set_cons_zero, List.set_cons_succ]
    refine AnyE.take2 (i := 2) [] (oi := { dst := some 19, op := Go.Op.fieldAddr 120 (Go.Operand.tmp 18) 0, type := 0, pos := "verify.go:130", after := #[{ on := 1, ground := Go.Ground.data }], guard := none }) (v := ?_) rfl (by kernel_rfl) (by kernel_rfl) (by kernel_rfl) (by kernel_rfl) (fun _ _ _ h => h) (Or.inl ⟨by rfl, ?_⟩) (by assumption) ?_
    rotate_left
    · (intro w0 hSw; (try dsimp only at hSw); go_split_ands; go_simp; with_reducible rfl)
    try simp only [Act.put, List.setIfInBounds_toArray, List.set_cons_zero, List.set_cons_succ]
    refine AnyE.take2 (i := 3) [] (oi := { dst := some 20, op := Go.Op.load 26 (Go.Operand.tmp 19), type := 26, pos := "verify.go:130", after := #[{ on := 2, ground := Go.Ground.data }], guard := none }) (v := ?_) rfl (by kernel_rfl) (by kernel_rfl) (by kernel_rfl) (by kernel_rfl) (fun _ _ _ h => h) (Or.inl ⟨by rfl, ?_⟩) (by assumption) ?_
    rotate_left
    · (intro w0 hSw; (try dsimp only at hSw); go_split_ands; go_simp; with_reducible rfl)
    try simp only [Act.put, List.setIfInBounds_toArray, List.set_cons_zero, List.set_cons_succ]
    refine AnyE.take2 (i := 4) [] (oi := { dst := some 21, op := Go.Op.move (Go.Operand.tmp 0), type := 112, pos := "verify.go:130", after := #[], guard := none }) (v := ?_) rfl (by kernel_rfl) (by kernel_rfl) (by kernel_rfl) (by kernel_rfl) (fun _ _ _ h => h) (Or.inl ⟨by rfl, ?_⟩) (by assumption) ?_
    rotate_left
    · (intro w0 hSw; (try dsimp only at hSw); go_split_ands; go_simp; with_reducible rfl)
    try simp only [Act.put, List.setIfInBounds_toArray, List.set_cons_zero, List.set_cons_succ]
    refine AnyE.take2 (i := 5) [] (oi := { dst := some 22, op := Go.Op.nilCheck (Go.Operand.tmp 21), type := 0, pos := "verify.go:130", after := #[{ on := 4, ground := Go.Ground.data }], guard := none }) (v := ?_) rfl (by kernel_rfl) (by kernel_rfl) (by kernel_rfl) (by kernel_rfl) (fun _ _ _ h => h) (Or.inl ⟨by rfl, ?_⟩) (by assumption) ?_
    rotate_left
    · (intro w0 hSw; (try dsimp only at hSw); go_split_ands; go_simp; with_reducible rfl)
    try simp only [Act.put, List.setIfInBounds_toArray, List.set_cons_zero, List.set_cons_succ]
    refine AnyE.take2 (i := 6) [] (oi := { dst := some 23, op := Go.Op.fieldAddr 120 (Go.Operand.tmp 22) 1, type := 0, pos := "verify.go:130", after := #[{ on := 5, ground := Go.Ground.data }], guard := none }) (v := ?_) rfl (by kernel_rfl) (by kernel_rfl) (by kernel_rfl) (by kernel_rfl) (fun _ _ _ h => h) (Or.inl ⟨by rfl, ?_⟩) (by assumption) ?_
    rotate_left
    · (intro w0 hSw; (try dsimp only at hSw); go_split_ands; go_simp; with_reducible rfl)
    try simp only [Act.put, List.setIfInBounds_toArray, List.set_cons_zero, List.set_cons_succ]
    refine AnyE.take2 (i := 7) [] (oi := { dst := some 24, op := Go.Op.load 3 (Go.Operand.tmp 23), type := 3, pos := "verify.go:130", after := #[{ on := 6, ground := Go.Ground.data }], guard := none }) (v := ?_) rfl (by kernel_rfl) (by kernel_rfl) (by kernel_rfl) (by kernel_rfl) (fun _ _ _ h => h) (Or.inl ⟨by rfl, ?_⟩) (by assumption) ?_
    rotate_left
    · (intro w0 hSw; (try dsimp only at hSw); go_split_ands; go_simp; with_reducible rfl)
    try simp only [Act.put, List.setIfInBounds_toArray, List.set_cons_zero, List.set_cons_succ]
    refine AnyE.take2 (i := 8) [] (oi := { dst := some 25, op := Go.Op.load 74 (Go.Operand.tmp 5), type := 74, pos := "verify.go:130", after := #[], guard := none }) (v := ?_) rfl (by kernel_rfl) (by kernel_rfl) (by kernel_rfl) (by kernel_rfl) (fun _ _ _ h => h) (Or.inl ⟨by rfl, ?_⟩) (by assumption) ?_
    rotate_left
    · (intro w0 hSw; (try dsimp only at hSw); go_split_ands; go_simp; with_reducible rfl)
    try simp only [Act.put, List.setIfInBounds_toArray, List.set_cons_zero, List.set_cons_succ]
    refine AnyE.take2 (i := 9) [] (oi := { dst := some 26, op := Go.Op.move (Go.Operand.tmp 0), type := 112, pos := "verify.go:130", after := #[], guard := none }) (v := ?_) rfl (by kernel_rfl) (by kernel_rfl) (by kernel_rfl) (by kernel_rfl) (fun _ _ _ h => h) (Or.inl ⟨by rfl, ?_⟩) (by assumption) ?_
    rotate_left
    · (intro w0 hSw; (try dsimp only at hSw); go_split_ands; go_simp; with_reducible rfl)
    try simp only [Act.put, List.setIfInBounds_toArray, List.set_cons_zero, List.set_cons_succ]
    refine AnyE.take2 (i := 10) [] (oi := { dst := some 27, op := Go.Op.nilCheck (Go.Operand.tmp 26), type := 0, pos := "verify.go:130", after := #[{ on := 9, ground := Go.Ground.data }], guard := none }) (v := ?_) rfl (by kernel_rfl) (by kernel_rfl) (by kernel_rfl) (by kernel_rfl) (fun _ _ _ h => h) (Or.inl ⟨by rfl, ?_⟩) (by assumption) ?_
    rotate_left
    · (intro w0 hSw; (try dsimp only at hSw); go_split_ands; go_simp; with_reducible rfl)
    try simp only [Act.put, List.setIfInBounds_toArray, List.set_cons_zero, List.set_cons_succ]
    refine AnyE.take2 (i := 11) [] (oi := { dst := some 28, op := Go.Op.fieldAddr 120 (Go.Operand.tmp 27) 4, type := 0, pos := "verify.go:130", after := #[{ on := 10, ground := Go.Ground.data }], guard := none }) (v := ?_) rfl (by kernel_rfl) (by kernel_rfl) (by kernel_rfl) (by kernel_rfl) (fun _ _ _ h => h) (Or.inl ⟨by rfl, ?_⟩) (by assumption) ?_
    rotate_left
    · (intro w0 hSw; (try dsimp only at hSw); go_split_ands; go_simp; with_reducible rfl)
    try simp only [Act.put, List.setIfInBounds_toArray, List.set_cons_zero, List.set_cons_succ]
    refine AnyE.take2 (i := 12) [] (oi := { dst := some 29, op := Go.Op.load 62 (Go.Operand.tmp 28), type := 62, pos := "verify.go:130", after := #[{ on := 11, ground := Go.Ground.data }], guard := none }) (v := ?_) rfl (by kernel_rfl) (by kernel_rfl) (by kernel_rfl) (by kernel_rfl) (fun _ _ _ h => h) (Or.inl ⟨by rfl, ?_⟩) (by assumption) ?_
    rotate_left
    · (intro w0 hSw; (try dsimp only at hSw); go_split_ands; go_simp; with_reducible rfl)
    try simp only [Act.put, List.setIfInBounds_toArray, List.set_cons_zero, List.set_cons_succ]
    refine AnyE.take2 (i := 13) [] (oi := { dst := some 30, op := Go.Op.move (Go.Operand.tmp 1), type := 3, pos := "verify.go:130", after := #[], guard := none }) (v := ?_) rfl (by kernel_rfl) (by kernel_rfl) (by kernel_rfl) (by kernel_rfl) (fun _ _ _ h => h) (Or.inl ⟨by rfl, ?_⟩) (by assumption) ?_
    rotate_left
    · (intro w0 hSw; (try dsimp only at hSw); go_split_ands; go_simp; with_reducible rfl)
    try simp only [Act.put, List.setIfInBounds_toArray, List.set_cons_zero, List.set_cons_succ]
    refine AnyE.take2 (i := 14) [] (oi := { dst := some 31, op := Go.Op.indexAddr 62 (Go.Operand.tmp 29) (Go.Operand.tmp 30), type := 0, pos := "verify.go:130", after := #[{ on := 12, ground := Go.Ground.data }, { on := 13, ground := Go.Ground.data }], guard := none }) (v := ?_) rfl (by kernel_rfl) (by kernel_rfl) (by kernel_rfl) (by kernel_rfl) (fun _ _ _ h => h) (Or.inl ⟨by rfl, ?_⟩) (by assumption) ?_
    rotate_left
    · (intro w0 hSw; (try dsimp only at hSw); go_split_ands; go_simp; with_reducible rfl)
    try simp only [Act.put, List.setIfInBounds_toArray, List.set_cons_zero, List.set_cons_succ]
    refine AnyE.take2 (i := 15) [] (oi := { dst := some 32, op := Go.Op.load 71 (Go.Operand.tmp 31), type := 71, pos := "verify.go:130", after := #[{ on := 14, ground := Go.Ground.data }], guard := none }) (v := ?_) rfl (by kernel_rfl) (by kernel_rfl) (by kernel_rfl) (by kernel_rfl) (fun _ _ _ h => h) (Or.inl ⟨by rfl, ?_⟩) (by assumption) ?_
    rotate_left
    · (intro w0 hSw; (try dsimp only at hSw); go_split_ands; go_simp; with_reducible rfl)
    try simp only [Act.put, List.setIfInBounds_toArray, List.set_cons_zero, List.set_cons_succ]
    refine AnyE.ready (rs := [16, 20]) (by kernel_rfl) (by simp) ?_
    refine AllE.cons (o := { dst := some 33, op := Go.Op.call { callee := Go.Callee.value (Go.Operand.func 32), args := #[Go.Operand.tmp 20, Go.Operand.tmp 24, Go.Operand.tmp 25, Go.Operand.tmp 32], argTypes := #[26, 3, 74, 71] }, type := 77, pos := "verify.go:130", after := #[{ on := 3, ground := Go.Ground.data }, { on := 7, ground := Go.Ground.data }, { on := 8, ground := Go.Ground.data }, { on := 15, ground := Go.Ground.data }], guard := none }) rfl (fun KK hKK => ?_) (AllE.cons (o := { dst := some 6, op := Go.Op.alloc 71, type := 0, pos := "verify.go:130", after := #[], guard := none }) rfl (fun KK hKK => ?_) AllE.nil)
    · go_simp
      go_at_call 32
      refine (HEf.out _ HBd.out).mono ?_
      rintro e u1 ⟨ra, rc, sh, rfl, hb5, he5⟩
      rw [HEr.out] at he5 ⊢
      have HE5 := Lib.hid he5
      have HB5 := Lib.hid hb5
      clear he5 hb5
      have HBu := Lib.hid (HBd.out.below HB5.out)
      have HHi := Lib.hid HBd.out.f.hi
      refine hKK.out _ _ (HHO.out _ HBu.out) (fun hHeld => ?_)
      clear hKK KK
      try simp only [Act.put, List.setIfInBounds_toArray, List.set_cons_zero, List.set_cons_succ]
      refine AnyE.take2 (i := 17) [] (oi := { dst := some 16, op := Go.Op.move (Go.Operand.tmp 33), type := 77, pos := "verify.go:130", after := #[{ on := 16, ground := Go.Ground.data }], guard := none }) (v := ?_) rfl (by kernel_rfl) (by kernel_rfl) (by kernel_rfl) (by kernel_rfl) (fun _ _ _ h => h) (Or.inl ⟨by rfl, ?_⟩) (by assumption) ?_
      rotate_left
      · (intro w0 hSw; (try dsimp only at hSw); go_split_ands; go_simp; with_reducible rfl)
      try simp only [Act.put, List.setIfInBounds_toArray, List.set_cons_zero, List.set_cons_succ]
      refine AnyE.take2 (i := 18) [] (oi := { dst := some 34, op := Go.Op.extract (Go.Operand.tmp 16) 0, type := 71, pos := "verify.go:130", after := #[{ on := 17, ground := Go.Ground.data }], guard := none }) (v := ?_) rfl (by kernel_rfl) (by kernel_rfl) (by kernel_rfl) (by kernel_rfl) (fun _ _ _ h => h) (Or.inl ⟨by rfl, ?_⟩) (by assumption) ?_
      rotate_left
      · (intro w0 hSw; (try dsimp only at hSw); go_split_ands; go_simp; with_reducible rfl)
      try simp only [Act.put, List.setIfInBounds_toArray, List.set_cons_zero, List.set_cons_succ]
      refine AnyE.take2 (i := 19) [] (oi := { dst := some 35, op := Go.Op.extract (Go.Operand.tmp 16) 1, type := 30, pos := "verify.go:130", after := #[{ on := 17, ground := Go.Ground.data }, { on := 21, ground := Go.Ground.gcOnly Go.Departure.lateStores }], guard := none }) (v := ?_) rfl (by kernel_rfl) (by kernel_rfl) (by kernel_rfl) (by kernel_rfl) (fun _ _ _ h => h) (Or.inl ⟨by rfl, ?_⟩) (by assumption) ?_
      rotate_left
      · (intro w0 hSw; (try dsimp only at hSw); go_split_ands; go_simp; with_reducible rfl)
      try simp only [Act.put, List.setIfInBounds_toArray, List.set_cons_zero, List.set_cons_succ]
      refine AnyE.ready (rs := [20]) (by kernel_rfl) (by simp) ?_
      refine AllE.cons (o := { dst := some 6, op := Go.Op.alloc 71, type := 0, pos := "verify.go:130", after := #[], guard := none }) rfl (fun KK hKK => ?_) AllE.nil
      go_simp
      obtain ⟨V, t6, hV, ht, hC, hb1, hb2, hb3⟩ := StB.make HBu.out
      rw [← hV, ← ht]
      have HC := Lib.hid (And.intro hC (And.intro hb1 hb2))
      have HV := Lib.hid (And.intro hb3 ht)
      clear hC hV hb1 hb2 hb3 ht
      have HCu := Lib.hid HC.out.1
      refine hKK.out _ _ (HHO.out _ (HBu.out.below HV.out.1)) (fun hHeld => ?_)
      clear hKK KK
      try simp only [Act.put, List.setIfInBounds_toArray, List.set_cons_zero, List.set_cons_succ]
      have z0 : V.cell? ⟨t6, 0, none⟩ = some (.slice none 0 0) := HCu.out.cell 0
      have z1 : V.cell? ⟨t6, 1, none⟩ = some (.int .i64 0) := HCu.out.cell 1
      have y0 : V.frozen? ⟨t6, 0, none⟩ = false := HCu.out.frz 0
      have y1 : V.frozen? ⟨t6, 1, none⟩ = false := HCu.out.frz 1
      refine AnyE.ready (rs := [21]) (by kernel_rfl) (by simp) ?_
      refine AllE.cons (o := { dst := none, op := Go.Op.store 71 (Go.Operand.tmp 6) (Go.Operand.tmp 34), type := 0, pos := "verify.go:130", after := #[{ on := 20, ground := Go.Ground.data }, { on := 18, ground := Go.Ground.data }, { on := 16, ground := Go.Ground.chain }, { on := 0, ground := Go.Ground.phase }, { on := 1, ground := Go.Ground.phase }, { on := 2, ground := Go.Ground.phase }, { on := 3, ground := Go.Ground.phase }, { on := 4, ground := Go.Ground.phase }, { on := 5, ground := Go.Ground.phase }, { on := 6, ground := Go.Ground.phase }, { on := 7, ground := Go.Ground.phase }, { on := 8, ground := Go.Ground.phase }, { on := 9, ground := Go.Ground.phase }, { on := 10, ground := Go.Ground.phase }, { on := 11, ground := Go.Ground.phase }, { on := 12, ground := Go.Ground.phase }, { on := 13, ground := Go.Ground.phase }, { on := 14, ground := Go.Ground.phase }, { on := 15, ground := Go.Ground.phase }, { on := 16, ground := Go.Ground.phase }, { on := 17, ground := Go.Ground.phase }, { on := 18, ground := Go.Ground.phase }, { on := 19, ground := Go.Ground.textOnly Go.Departure.lateStores }, { on := 20, ground := Go.Ground.phase }], guard := none }) rfl (fun KK hKK => ?_) AllE.nil
      go_simp
      clear z0 z1 y0 y1
      have HQ : Hid (StQ K O F X lo k w t6 ra rc sh ((V.setCell ⟨t6, 0, none⟩ (.slice ra sh.l.length rc)).setCell ⟨t6, 1, none⟩ (.int .i64 sh.h))) := Lib.hid ⟨HBu.out.below (below_set2 HV.out.1 (Nat.le_of_eq HV.out.2.symm) _ _), (HCu.out.set 0 (.slice ra sh.l.length rc)).set 1 (.int .i64 sh.h), HC.out.2.1, HC.out.2.2, fun q => have h9 := HE5.out (HEr.out.symm.trans q); ⟨h9.1, h9.2.1.kept (Kept.of (below_set2 HV.out.1 (Nat.le_of_eq HV.out.2.symm) _ _)), h9.2.2.1, fun p hp => Nat.le_trans HHi.out (h9.2.2.2 p hp)⟩⟩
      generalize ((V.setCell ⟨t6, 0, none⟩ (.slice ra sh.l.length rc)).setCell ⟨t6, 1, none⟩ (.int .i64 sh.h)) = u9 at HQ ⊢
      refine hKK.out _ _ (HHO.out _ HQ.out.1) (fun hHeld => ?_)
      clear hKK KK
      try simp only [Act.put, List.setIfInBounds_toArray, List.set_cons_zero, List.set_cons_succ]
      refine AnyE.ready (rs := [22]) (by kernel_rfl) (by simp) ?_
      refine AllE.last (o := { dst := some 7, op := Go.Op.assign (Go.Operand.tmp 35), type := 30, pos := "verify.go:130", after := #[{ on := 19, ground := Go.Ground.data }, { on := 21, ground := Go.Ground.chain }, { on := 0, ground := Go.Ground.phase }, { on := 1, ground := Go.Ground.phase }, { on := 2, ground := Go.Ground.phase }, { on := 3, ground := Go.Ground.phase }, { on := 4, ground := Go.Ground.phase }, { on := 5, ground := Go.Ground.phase }, { on := 6, ground := Go.Ground.phase }, { on := 7, ground := Go.Ground.phase }, { on := 8, ground := Go.Ground.phase }, { on := 9, ground := Go.Ground.phase }, { on := 10, ground := Go.Ground.phase }, { on := 11, ground := Go.Ground.phase }, { on := 12, ground := Go.Ground.phase }, { on := 13, ground := Go.Ground.phase }, { on := 14, ground := Go.Ground.phase }, { on := 15, ground := Go.Ground.phase }, { on := 16, ground := Go.Ground.phase }, { on := 17, ground := Go.Ground.phase }, { on := 18, ground := Go.Ground.phase }, { on := 19, ground := Go.Ground.phase }, { on := 20, ground := Go.Ground.phase }, { on := 21, ground := Go.Ground.phase }], guard := none }) rfl (by kernel_rfl) (fun KK hKK => ?_)
      go_simp
      refine hKK.out _ _ ?_
      clear hKK KK
      try simp only [Act.put, List.setIfInBounds_toArray, List.set_cons_zero, List.set_cons_succ]
      go_wp2_with fail
      go_meet
      case rel => exact ⟨t6, ra, rc, sh, rfl, rfl, HQ.out⟩
    · go_simp
      obtain ⟨V, t6, hV, ht, hC, hb1, hb2, hb3⟩ := StB.make HBd.out
      rw [← hV, ← ht]
      have HC := Lib.hid (And.intro hC (And.intro hb1 hb2))
      have HV := Lib.hid (And.intro hb3 ht)
      clear hC hV hb1 hb2 hb3 ht
      have HHi := Lib.hid (Nat.le_trans HBd.out.f.hi HV.out.1.size)
      refine hKK.out _ _ (HHO.out _ (HBd.out.below HV.out.1)) (fun hHeld => ?_)
      clear hKK KK
      try simp only [Act.put, List.setIfInBounds_toArray, List.set_cons_zero, List.set_cons_succ]
      refine AnyE.ready (rs := [16]) (by kernel_rfl) (by simp) ?_
      refine AllE.cons (o := { dst := some 33, op := Go.Op.call { callee := Go.Callee.value (Go.Operand.func 32), args := #[Go.Operand.tmp 20, Go.Operand.tmp 24, Go.Operand.tmp 25, Go.Operand.tmp 32], argTypes := #[26, 3, 74, 71] }, type := 77, pos := "verify.go:130", after := #[{ on := 3, ground := Go.Ground.data }, { on := 7, ground := Go.Ground.data }, { on := 8, ground := Go.Ground.data }, { on := 15, ground := Go.Ground.data }], guard := none }) rfl (fun KK hKK => ?_) AllE.nil
      go_simp
      go_at_call 32
      refine (HEf.out _ (HBd.out.below HV.out.1)).mono ?_
      rintro e u1 ⟨ra, rc, sh, rfl, hb5, he5⟩
      rw [HEr.out] at he5 ⊢
      have HE5 := Lib.hid he5
      have HB5 := Lib.hid hb5
      clear he5 hb5
      have HCu := Lib.hid (HC.out.1.below HB5.out)
      refine hKK.out _ _ (HHO.out _ ((HBd.out.below HV.out.1).below HB5.out)) (fun hHeld => ?_)
      clear hKK KK
      try simp only [Act.put, List.setIfInBounds_toArray, List.set_cons_zero, List.set_cons_succ]
      refine AnyE.take2 (i := 17) [] (oi := { dst := some 16, op := Go.Op.move (Go.Operand.tmp 33), type := 77, pos := "verify.go:130", after := #[{ on := 16, ground := Go.Ground.data }], guard := none }) (v := ?_) rfl (by kernel_rfl) (by kernel_rfl) (by kernel_rfl) (by kernel_rfl) (fun _ _ _ h => h) (Or.inl ⟨by rfl, ?_⟩) (by assumption) ?_
      rotate_left
      · (intro w0 hSw; (try dsimp only at hSw); go_split_ands; go_simp; with_reducible rfl)
      try simp only [Act.put, List.setIfInBounds_toArray, List.set_cons_zero, List.set_cons_succ]
      refine AnyE.take2 (i := 18) [] (oi := { dst := some 34, op := Go.Op.extract (Go.Operand.tmp 16) 0, type := 71, pos := "verify.go:130", after := #[{ on := 17, ground := Go.Ground.data }], guard := none }) (v := ?_) rfl (by kernel_rfl) (by kernel_rfl) (by kernel_rfl) (by kernel_rfl) (fun _ _ _ h => h) (Or.inl ⟨by rfl, ?_⟩) (by assumption) ?_
      rotate_left
      · (intro w0 hSw; (try dsimp only at hSw); go_split_ands; go_simp; with_reducible rfl)
      try simp only [Act.put, List.setIfInBounds_toArray, List.set_cons_zero, List.set_cons_succ]
      refine AnyE.take2 (i := 19) [] (oi := { dst := some 35, op := Go.Op.extract (Go.Operand.tmp 16) 1, type := 30, pos := "verify.go:130", after := #[{ on := 17, ground := Go.Ground.data }, { on := 21, ground := Go.Ground.gcOnly Go.Departure.lateStores }], guard := none }) (v := ?_) rfl (by kernel_rfl) (by kernel_rfl) (by kernel_rfl) (by kernel_rfl) (fun _ _ _ h => h) (Or.inl ⟨by rfl, ?_⟩) (by assumption) ?_
      rotate_left
      · (intro w0 hSw; (try dsimp only at hSw); go_split_ands; go_simp; with_reducible rfl)
      try simp only [Act.put, List.setIfInBounds_toArray, List.set_cons_zero, List.set_cons_succ]
      have z0 : u1.cell? ⟨t6, 0, none⟩ = some (.slice none 0 0) := HCu.out.cell 0
      have z1 : u1.cell? ⟨t6, 1, none⟩ = some (.int .i64 0) := HCu.out.cell 1
      have y0 : u1.frozen? ⟨t6, 0, none⟩ = false := HCu.out.frz 0
      have y1 : u1.frozen? ⟨t6, 1, none⟩ = false := HCu.out.frz 1
      refine AnyE.ready (rs := [21]) (by kernel_rfl) (by simp) ?_
      refine AllE.cons (o := { dst := none, op := Go.Op.store 71 (Go.Operand.tmp 6) (Go.Operand.tmp 34), type := 0, pos := "verify.go:130", after := #[{ on := 20, ground := Go.Ground.data }, { on := 18, ground := Go.Ground.data }, { on := 16, ground := Go.Ground.chain }, { on := 0, ground := Go.Ground.phase }, { on := 1, ground := Go.Ground.phase }, { on := 2, ground := Go.Ground.phase }, { on := 3, ground := Go.Ground.phase }, { on := 4, ground := Go.Ground.phase }, { on := 5, ground := Go.Ground.phase }, { on := 6, ground := Go.Ground.phase }, { on := 7, ground := Go.Ground.phase }, { on := 8, ground := Go.Ground.phase }, { on := 9, ground := Go.Ground.phase }, { on := 10, ground := Go.Ground.phase }, { on := 11, ground := Go.Ground.phase }, { on := 12, ground := Go.Ground.phase }, { on := 13, ground := Go.Ground.phase }, { on := 14, ground := Go.Ground.phase }, { on := 15, ground := Go.Ground.phase }, { on := 16, ground := Go.Ground.phase }, { on := 17, ground := Go.Ground.phase }, { on := 18, ground := Go.Ground.phase }, { on := 19, ground := Go.Ground.textOnly Go.Departure.lateStores }, { on := 20, ground := Go.Ground.phase }], guard := none }) rfl (fun KK hKK => ?_) AllE.nil
      go_simp
      clear z0 z1 y0 y1
      have HQ : Hid (StQ K O F X lo k w t6 ra rc sh ((u1.setCell ⟨t6, 0, none⟩ (.slice ra sh.l.length rc)).setCell ⟨t6, 1, none⟩ (.int .i64 sh.h))) := Lib.hid ⟨HBd.out.below (below_set2 (HV.out.1.trans (HB5.out.mono HV.out.1.size)) (Nat.le_of_eq HV.out.2.symm) _ _), (HCu.out.set 0 (.slice ra sh.l.length rc)).set 1 (.int .i64 sh.h), HC.out.2.1, HC.out.2.2, fun q => have h9 := HE5.out (HEr.out.symm.trans q); ⟨h9.1, (h9.2.1.far (fun p hp => by have := h9.2.2.2 p hp; have := HC.out.1.lt; omega) 0 (.slice ra sh.l.length rc)).far (fun p hp => by have := h9.2.2.2 p hp; have := HC.out.1.lt; omega) 1 (.int .i64 sh.h), h9.2.2.1, fun p hp => Nat.le_trans HHi.out (h9.2.2.2 p hp)⟩⟩
      generalize ((u1.setCell ⟨t6, 0, none⟩ (.slice ra sh.l.length rc)).setCell ⟨t6, 1, none⟩ (.int .i64 sh.h)) = u9 at HQ ⊢
      refine hKK.out _ _ (HHO.out _ HQ.out.1) (fun hHeld => ?_)
      clear hKK KK
      try simp only [Act.put, List.setIfInBounds_toArray, List.set_cons_zero, List.set_cons_succ]
      refine AnyE.ready (rs := [22]) (by kernel_rfl) (by simp) ?_
      refine AllE.last (o := { dst := some 7, op := Go.Op.assign (Go.Operand.tmp 35), type := 30, pos := "verify.go:130", after := #[{ on := 19, ground := Go.Ground.data }, { on := 21, ground := Go.Ground.chain }, { on := 0, ground := Go.Ground.phase }, { on := 1, ground := Go.Ground.phase }, { on := 2, ground := Go.Ground.phase }, { on := 3, ground := Go.Ground.phase }, { on := 4, ground := Go.Ground.phase }, { on := 5, ground := Go.Ground.phase }, { on := 6, ground := Go.Ground.phase }, { on := 7, ground := Go.Ground.phase }, { on := 8, ground := Go.Ground.phase }, { on := 9, ground := Go.Ground.phase }, { on := 10, ground := Go.Ground.phase }, { on := 11, ground := Go.Ground.phase }, { on := 12, ground := Go.Ground.phase }, { on := 13, ground := Go.Ground.phase }, { on := 14, ground := Go.Ground.phase }, { on := 15, ground := Go.Ground.phase }, { on := 16, ground := Go.Ground.phase }, { on := 17, ground := Go.Ground.phase }, { on := 18, ground := Go.Ground.phase }, { on := 19, ground := Go.Ground.phase }, { on := 20, ground := Go.Ground.phase }, { on := 21, ground := Go.Ground.phase }], guard := none }) rfl (by kernel_rfl) (fun KK hKK => ?_)
      go_simp
      refine hKK.out _ _ ?_
      clear hKK KK
      try simp only [Act.put, List.setIfInBounds_toArray, List.set_cons_zero, List.set_cons_succ]
      go_wp2_with fail
      go_meet
      case rel => exact ⟨t6, ra, rc, sh, rfl, rfl, HQ.out⟩
  case rest =>
    obtain ⟨t6, ra, rc, sh, rfl, rfl, hq⟩ := hcut
    have HB : Hid (StB K O F X lo k w wc) := Lib.hid hq.1
    have HX : Hid (Bx wc t6 #[.slice ra sh.l.length rc, .int .i64 sh.h] 71) := Lib.hid hq.2.1
    have HT6 : Hid (K.hi ≤ t6 ∧ w.heap.size < t6) := Lib.hid ⟨hq.2.2.1, hq.2.2.2.1⟩
    have HE : Hid (er = 0 → sh = beh K.P K.m K.D F k ∧ Ints wc ra sh.l ∧ sh.l.length ≤ rc ∧ ∀ p, ra = some p → K.hi ≤ p.block) := Lib.hid fun q => hq.2.2.2.2 (HEr.out.trans q)
    have HEnd : Hid (∀ x V, Below wc.heap.size wc V → stE K.P K.m K.n K.D (K.P.sk K.m) F k = x ∧ stF K.P K.m K.n K.D (K.P.sk K.m) F k = F → StepP K w O F lo k (.returned (.int .i64 x)) V) := Lib.hid fun x V hb hx => ⟨X, lo, by rw [hx.1], by rw [hx.2]; exact hq.1.f.below hb, hq.1.r.trans (Fr.below hb), Nat.le_refl _, fun j h1 h2 => by rw [hx.2, h2] at h1; cases h1⟩
    clear hq
    obtain ⟨bm, om, hma, hbm, hcm⟩ := HK.out.at'.m.resolve_left (by have := HK.out.m; omega)
    have m3 : wc.cell? ⟨bm, om + K.m * 5 + 3, none⟩ = some (.int .i64 (K.P.sk K.m)) := (HB.out.f.b.cell (p := ⟨bm, om + K.m * 5 + 3, none⟩) hbm).trans (hcm K.m HK.out.m).2.2.2.1
    have f2 : wc.cell? ⟨K.f, 2, none⟩ = some (.slice (some ⟨bm, om, none⟩) K.P.nm K.A.mc) := (HB.out.f.f.cell 2).trans (by rw [← hma]; rfl)
    have f3 : wc.cell? ⟨K.f, 3, none⟩ = some (.int .i64 K.m) := HB.out.f.f.cell 3
    have c60 : wc.cell? ⟨t6, 0, none⟩ = some (.slice ra sh.l.length rc) := HX.out.cell 0
    have c61 : wc.cell? ⟨t6, 1, none⟩ = some (.int .i64 sh.h) := HX.out.cell 1
    have hmm : (K.m : Int) < K.P.nm := by have := HK.out.m; omega
    clear hcm hma
    by_cases her0 : er = 0
    · subst her0
      obtain ⟨hsh, hI, hrc, hrf⟩ := HE.out rfl
      have HS : Hid (sh = beh K.P K.m K.D F k) := Lib.hid hsh
      have HI : Hid (Ints wc ra sh.l ∧ sh.l.length ≤ rc ∧ ∀ p, ra = some p → K.hi ≤ p.block) := Lib.hid ⟨hI, hrc, hrf⟩
      have HSh : Hid (0 ≤ sh.h ∧ sh.h ≤ 10) := Lib.hid (by rw [hsh]; exact effS_len HEr.out (HF.out.t0 k hk) (HF.out.t1 k hk))
      clear hsh hI hrc hrf
      by_cases hst : K.P.sk K.m < (sh.l.length : Int)
      · have d5 : decide (K.P.sk K.m < (sh.l.length : Int)) = true := decide_eq_true hst
        have hx := st_b K.P K.m K.n K.D (K.P.sk K.m) F k HEr.out (.inl (by rw [← HS.out]; exact hst))
        have HX2 := Lib.hid hx
        clear hx hst
        go_wp2_with fail
        go_quiet (fail)
        go_wp2
        go_ret
        exact HEnd.out 22 _ (below_drewN (Below.refl _ _) _) HX2.out
      · have d5 : decide (K.P.sk K.m < (sh.l.length : Int)) = false := decide_eq_false hst
        have hlen : sh.l.length ≤ 40 := by have := HK.out.s1; omega
        go_wp2_with fail
        go_quiet (fail)
        obtain ⟨V, hV⟩ : ∃ V, V = wc.drewN nq := ⟨_, rfl⟩
        have hbV : Below wc.heap.size wc V := hV ▸ below_drewN (Below.refl _ _) _
        rw [← hV]
        have HbV := Lib.hid hbV
        replace HB := Lib.hid (HB.out.below hbV)
        replace HX := Lib.hid (HX.out.below hbV)
        replace HI : Hid (Ints V ra sh.l ∧ sh.l.length ≤ rc ∧ ∀ p, ra = some p → K.hi ≤ p.block) := Lib.hid ⟨HI.out.1.kept (Kept.of hbV), HI.out.2⟩
        clear hV hbV m3 f2 f3 c60 c61
        have g0 : V.cell? ⟨w.heap.size, 0, none⟩ = some (.int .i64 (K.D k : Nat)) := HB.out.x.cell 0
        have g1 : V.cell? ⟨w.heap.size, 1, none⟩ = some (.int .i64 (opA K.D k)) := HB.out.x.cell 1
        have g3 : V.cell? ⟨w.heap.size, 3, none⟩ = some (.int .i64 (szK (kindO (K.D k)) : Nat)) := HB.out.x.cell 3
        have c60 : V.cell? ⟨t6, 0, none⟩ = some (.slice ra sh.l.length rc) := HX.out.cell 0
        have c61 : V.cell? ⟨t6, 1, none⟩ = some (.int .i64 sh.h) := HX.out.cell 1
        have f4 : V.cell? ⟨K.f, 4, none⟩ = some (.slice (K.A.cda K.m) K.n (K.A.cdc K.m)) := HB.out.f.f.cell 4
        by_cases h28 : K.D k = 28
        · have HB28 := Lib.hid h28
          have HRet : Hid (∀ V, Calls Try.prog 128 #[.int .i64 (K.D k : Nat)] V fun e w' => e = .returned (.bool true) ∧ w' = V) := Lib.hid fun V => (show retB (K.D k) = true by rw [h28]; rfl) ▸ returns_c (K.D k) V
          have HOn : Hid (∀ V, Calls Try.prog 129 #[.int .i64 (K.D k : Nat)] V fun e w' => e = .returned (.bool false) ∧ w' = V) := Lib.hid fun V => (show onB (K.D k) = false by rw [h28]; rfl) ▸ goesOn_c (K.D k) V
          have HJ : Hid (∀ V, Calls Try.prog 117 #[.int .i64 (K.D k : Nat)] V fun e w' => e = .returned (.bool false) ∧ w' = V) := Lib.hid fun V => (show jumpB (K.D k) = false by rw [h28]; rfl) ▸ jumps_c (K.D k) V
          clear h28
          by_cases hl0 : 0 < sh.l.length
          · have d6 : decide ((0 : Int) < (sh.l.length : Int)) = true := decide_eq_true (by omega)
            have d7 : decide (0 < sh.l.length) = true := decide_eq_true hl0
            have HX2 := Lib.hid (st_b K.P K.m K.n K.D (K.P.sk K.m) F k HEr.out (.inr ⟨HB28.out, by rw [← HS.out]; exact hl0⟩))
            go_wp2_with (first | (go_at_call 128; refine (HRet.out _).mono ?_; rintro e w1 ⟨rfl, hww⟩; obtain rfl := hww.symm))
            go_ret
            exact HEnd.out 22 _ HbV.out HX2.out
          · have d6 : decide ((0 : Int) < (sh.l.length : Int)) = false := decide_eq_false (by omega)
            have d7 : decide (0 < sh.l.length) = false := decide_eq_false hl0
            by_cases hh0 : sh.h = 0
            · have d8 : (sh.h != 0) = false := by simpa using hh0
              have HX2 : Hid (stE K.P K.m K.n K.D (K.P.sk K.m) F k = 0 ∧ stF K.P K.m K.n K.D (K.P.sk K.m) F k = F) := Lib.hid (by
                have h1 := st_ok K.P K.m K.n K.D (K.P.sk K.m) F k HEr.out (by rw [← HS.out]; omega) (by rw [← HS.out]; omega)
                have h2 := on_off K.P K.m K.n K.D F k (by rw [HB28.out]; rfl)
                have h3 := jm_off K.D k F (beh K.P K.m K.D F k) (by rw [HB28.out]; rfl)
                rw [h2.1, h2.2, if_neg (fun q => q rfl), if_neg (fun q => q rfl), h3.1, h3.2] at h1
                exact h1)
              clear hh0 hst
              go_wp2_with (first | (go_at_call 128; refine (HRet.out _).mono ?_; rintro e w1 ⟨rfl, hww⟩; obtain rfl := hww.symm) | (go_at_call 129; refine (HOn.out _).mono ?_; rintro e w1 ⟨rfl, hww⟩; obtain rfl := hww.symm) | (go_at_call 117; refine (HJ.out _).mono ?_; rintro e w1 ⟨rfl, hww⟩; obtain rfl := hww.symm))
              go_ret
              exact HEnd.out 0 _ HbV.out HX2.out
            · have d8 : (sh.h != 0) = true := by simpa using hh0
              have HX2 := Lib.hid (st_c K.P K.m K.n K.D (K.P.sk K.m) F k HEr.out (by rw [← HS.out]; omega) HB28.out (by rw [← HS.out]; exact hh0))
              clear hh0
              go_wp2_with (first | (go_at_call 128; refine (HRet.out _).mono ?_; rintro e w1 ⟨rfl, hww⟩; obtain rfl := hww.symm))
              go_ret
              exact HEnd.out 25 _ HbV.out HX2.out
        have hx := st_ok K.P K.m K.n K.D (K.P.sk K.m) F k HEr.out (by rw [← HS.out]; omega) (fun q => h28 q.1)
        have HOk := Lib.hid hx
        clear hx hst
        have HRet : Hid (∀ V, Calls Try.prog 128 #[.int .i64 (K.D k : Nat)] V fun e w' => e = .returned (.bool false) ∧ w' = V) := Lib.hid fun V => (show retB (K.D k) = false from decide_eq_false h28) ▸ returns_c (K.D k) V
        have hbz := szK_bd (kindO (K.D k))
        have hnx : k + szK (kindO (K.D k)) ≤ K.n := HNx.out
        have HRch : Hid (∀ V O F' X' lo' (j : Nat), FlC K V O F' X' lo' → Ints V ra sh.l → j < K.n → Calls Try.prog 130 #[.pointer (some ⟨K.f, 0, none⟩), .int .i64 (j : Nat), .agg #[.slice ra sh.l.length rc, .int .i64 sh.h]] V (ReachP K V O F' lo' j sh)) := Lib.hid fun V O F' X' lo' j h1 h2 hj => reach_c K HK.out O F' X' lo' j sh ra rc V h1 hj h2 HI.out.2.1 HI.out.2.2 hlen HSh.out.1 HSh.out.2
        by_cases h25 : K.D k = 25
        · have HJT : Hid (jumpB (K.D k) = true) := Lib.hid (by rw [h25]; rfl)
          have HOn : Hid (∀ V, Calls Try.prog 129 #[.int .i64 (K.D k : Nat)] V fun e w' => e = .returned (.bool false) ∧ w' = V) := Lib.hid fun V => (show onB (K.D k) = false by rw [h25]; rfl) ▸ goesOn_c (K.D k) V
          have HJ : Hid (∀ V, Calls Try.prog 117 #[.int .i64 (K.D k : Nat)] V fun e w' => e = .returned (.bool true) ∧ w' = V) := Lib.hid fun V => HJT.out ▸ jumps_c (K.D k) V
          have HX2 : Hid (stE K.P K.m K.n K.D (K.P.sk K.m) F k = reachE F (jmp K.D k) sh ∧ stF K.P K.m K.n K.D (K.P.sk K.m) F k = reachF F (jmp K.D k) sh) := Lib.hid (by
            have h1 := HOk.out
            have h2 := on_off K.P K.m K.n K.D F k (by rw [h25]; rfl)
            have h3 := jm_go K.D k F (beh K.P K.m K.D F k) HJT.out
            rw [h2.1, h2.2, if_neg (fun q => q rfl), if_neg (fun q => q rfl), h3.1, h3.2] at h1
            rw [HS.out]
            exact h1)
          clear h25 h28
          have hjj := HJm.out HJT.out
          have hjw : (k : Int) + opA K.D k = ((jmp K.D k : Nat) : Int) := by unfold jmp; omega
          have hjw2 : IntKind.i64.wrap ((k : Int) + opA K.D k) = ((jmp K.D k : Nat) : Int) := by rw [hjw, IntKind.wrap_i64]; have := hjj.2; omega
          have hjn : jmp K.D k < K.n := hjj.2
          clear hjj
          generalize jmp K.D k = jx at *
          have HRc := Lib.hid (HRch.out V O F X lo jx HB.out.f HI.out.1 hjn)
          go_wp2_with (first | (go_at_call 128; refine (HRet.out _).mono ?_; rintro e w1 ⟨rfl, hww⟩; obtain rfl := hww.symm) | (go_at_call 129; refine (HOn.out _).mono ?_; rintro e w1 ⟨rfl, hww⟩; obtain rfl := hww.symm) | (go_at_call 117; refine (HJ.out _).mono ?_; rintro e w1 ⟨rfl, hww⟩; obtain rfl := hww.symm))
          refine HRc.out.mono ?_
          rintro e W2 ⟨X2, lo2, rfl, hf2, hr2, hlo2⟩
          have hl2 := reach_lo (s := sh) hlo2
          go_wp2
          go_ret
          refine ⟨X2, lo2, by rw [HX2.out.1]; rfl, by rw [HX2.out.2]; exact hf2, HB.out.r.trans hr2, hl2.1, fun j h1 h2 => ?_⟩
          rw [HX2.out.2] at h1
          exact hl2.2 j h1 h2
        have HOnT : Hid (onB (K.D k) = true) := Lib.hid (decide_eq_true ⟨h25, h28⟩)
        have HOn : Hid (∀ V, Calls Try.prog 129 #[.int .i64 (K.D k : Nat)] V fun e w' => e = .returned (.bool true) ∧ w' = V) := Lib.hid fun V => HOnT.out ▸ goesOn_c (K.D k) V
        have hnw : IntKind.i64.wrap ((k : Int) + (szK (kindO (K.D k)) : Nat)) = ((nxt K.D k : Nat) : Int) := by rw [IntKind.wrap_i64]; unfold nxt; omega
        have hnw2 : (k : Int) + (szK (kindO (K.D k)) : Nat) = ((nxt K.D k : Nat) : Int) := by unfold nxt; omega
        by_cases hend : nxt K.D k = K.n
        · have d9 : (((nxt K.D k : Nat) : Int) == (K.n : Int)) = true := by rw [hend]; simp
          have HX2 : Hid (stE K.P K.m K.n K.D (K.P.sk K.m) F k = 26 ∧ stF K.P K.m K.n K.D (K.P.sk K.m) F k = F) := Lib.hid (by
            have h1 := HOk.out
            have h2 := on_end K.P K.m K.n K.D F k HOnT.out hend
            rw [h2.1, h2.2, if_pos (by decide), if_pos (by decide)] at h1
            exact h1)
          clear hend h25 h28
          generalize nxt K.D k = nx at *
          go_wp2_with (first | (go_at_call 128; refine (HRet.out _).mono ?_; rintro e w1 ⟨rfl, hww⟩; obtain rfl := hww.symm) | (go_at_call 129; refine (HOn.out _).mono ?_; rintro e w1 ⟨rfl, hww⟩; obtain rfl := hww.symm))
          go_quiet (fail)
          go_wp2
          go_ret
          exact HEnd.out 26 _ (HbV.out.trans (below_drewN (Below.refl _ _) _)) HX2.out
        · have d9 : (((nxt K.D k : Nat) : Int) == (K.n : Int)) = false := by simpa using (show ¬ ((nxt K.D k : Nat) : Int) = (K.n : Int) by omega)
          have hnn : nxt K.D k < K.n := by unfold nxt at hend ⊢; omega
          have HG := Lib.hid (on_go K.P K.m K.n K.D F k HOnT.out hend)
          clear hend
          obtain ⟨e1, he1⟩ : ∃ e1, reachE F (nxt K.D k) sh = e1 := ⟨_, rfl⟩
          have HE1 := Lib.hid he1
          clear he1
          by_cases h26 : K.D k = 26
          · have HJT : Hid (jumpB (K.D k) = true) := Lib.hid (by rw [h26]; rfl)
            have HJ : Hid (∀ V, Calls Try.prog 117 #[.int .i64 (K.D k : Nat)] V fun e w' => e = .returned (.bool true) ∧ w' = V) := Lib.hid fun V => HJT.out ▸ jumps_c (K.D k) V
            have HX0 : Hid (e1 ≠ 0 → stE K.P K.m K.n K.D (K.P.sk K.m) F k = e1 ∧ stF K.P K.m K.n K.D (K.P.sk K.m) F k = reachF F (nxt K.D k) sh) := Lib.hid (fun q => by
              have h1 := HOk.out
              rw [HG.out.1, HG.out.2, ← HS.out, HE1.out, if_pos q, if_pos q] at h1
              exact h1)
            have HX1 : Hid (e1 = 0 → stE K.P K.m K.n K.D (K.P.sk K.m) F k = reachE (reachF F (nxt K.D k) sh) (jmp K.D k) sh ∧ stF K.P K.m K.n K.D (K.P.sk K.m) F k = reachF (reachF F (nxt K.D k) sh) (jmp K.D k) sh) := Lib.hid (fun q => by
              have h1 := HOk.out
              have h3 := jm_go K.D k (reachF F (nxt K.D k) sh) sh HJT.out
              rw [HG.out.1, HG.out.2, ← HS.out, HE1.out, if_neg (fun z => z q), if_neg (fun z => z q), h3.1, h3.2] at h1
              exact h1)
            clear h25 h26 h28
            generalize nxt K.D k = nx at *
            have hjj := HJm.out HJT.out
            have hjw : (k : Int) + opA K.D k = ((jmp K.D k : Nat) : Int) := by unfold jmp; omega
            have hjw2 : IntKind.i64.wrap ((k : Int) + opA K.D k) = ((jmp K.D k : Nat) : Int) := by rw [hjw, IntKind.wrap_i64]; have := hjj.2; omega
            have hjn : jmp K.D k < K.n := hjj.2
            clear hjj
            generalize jmp K.D k = jx at *
            go_wp2_with (first | (go_at_call 128; refine (HRet.out _).mono ?_; rintro e w1 ⟨rfl, hww⟩; obtain rfl := hww.symm) | (go_at_call 129; refine (HOn.out _).mono ?_; rintro e w1 ⟨rfl, hww⟩; obtain rfl := hww.symm))
            go_quiet (fail)
            obtain ⟨V3, hV3⟩ : ∃ q, q = V.drewN nq := ⟨_, rfl⟩
            rw [← hV3]
            have hb3 : Below V.heap.size V V3 := hV3 ▸ below_drewN (Below.refl _ _) _
            replace HB := Lib.hid (HB.out.below hb3)
            replace HX := Lib.hid (HX.out.below hb3)
            replace HI : Hid (Ints V3 ra sh.l ∧ sh.l.length ≤ rc ∧ ∀ p, ra = some p → K.hi ≤ p.block) := Lib.hid ⟨HI.out.1.kept (Kept.of hb3), HI.out.2⟩
            have HRc := Lib.hid (HRch.out V3 O F X lo nx HB.out.f HI.out.1 hnn)
            clear g0 g1 g3 c60 c61 f4
            clear hb3 hV3
            have g0 : V3.cell? ⟨w.heap.size, 0, none⟩ = some (.int .i64 (K.D k : Nat)) := HB.out.x.cell 0
            have g1 : V3.cell? ⟨w.heap.size, 1, none⟩ = some (.int .i64 (opA K.D k)) := HB.out.x.cell 1
            have g3 : V3.cell? ⟨w.heap.size, 3, none⟩ = some (.int .i64 (szK (kindO (K.D k)) : Nat)) := HB.out.x.cell 3
            have c60 : V3.cell? ⟨t6, 0, none⟩ = some (.slice ra sh.l.length rc) := HX.out.cell 0
            have c61 : V3.cell? ⟨t6, 1, none⟩ = some (.int .i64 sh.h) := HX.out.cell 1
            have f4 : V3.cell? ⟨K.f, 4, none⟩ = some (.slice (K.A.cda K.m) K.n (K.A.cdc K.m)) := HB.out.f.f.cell 4
            go_wp2_with fail
            refine HRc.out.mono ?_
            rintro e W2 ⟨X2, lo2, rfl, hf2, hr2, hlo2⟩
            rw [HE1.out]
            have HL2 := Lib.hid (reach_lo (s := sh) hlo2)
            have HF2 := Lib.hid hf2
            have HR2 := Lib.hid hr2
            clear g0 g1 g3 c60 c61 f4
            clear hf2 hr2 hlo2
            have hgi : K.hi ≤ w.heap.size := HF.out.hi
            have HB2 : Hid (StB K O (reachF F nx sh) X2 lo2 k w W2) := Lib.hid ⟨HF2.out, HB.out.r.trans HR2.out, HR2.out.bx HB.out.x hgi HK.out⟩
            have HXX2 : Hid (Bx W2 t6 #[.slice ra sh.l.length rc, .int .i64 sh.h] 71) := Lib.hid (HR2.out.bx HX.out HT6.out.1 HK.out)
            have g0 : W2.cell? ⟨w.heap.size, 0, none⟩ = some (.int .i64 (K.D k : Nat)) := HB2.out.x.cell 0
            have g1 : W2.cell? ⟨w.heap.size, 1, none⟩ = some (.int .i64 (opA K.D k)) := HB2.out.x.cell 1
            have g3 : W2.cell? ⟨w.heap.size, 3, none⟩ = some (.int .i64 (szK (kindO (K.D k)) : Nat)) := HB2.out.x.cell 3
            have c60 : W2.cell? ⟨t6, 0, none⟩ = some (.slice ra sh.l.length rc) := HXX2.out.cell 0
            have c61 : W2.cell? ⟨t6, 1, none⟩ = some (.int .i64 sh.h) := HXX2.out.cell 1
            have f4 : W2.cell? ⟨K.f, 4, none⟩ = some (.slice (K.A.cda K.m) K.n (K.A.cdc K.m)) := HB2.out.f.f.cell 4
            by_cases he0 : e1 = 0
            · have d0 : (e1 != 0) = false := by simpa using he0
              have HZ := Lib.hid (HX1.out he0)
              have HRc2 := Lib.hid (HRch.out W2 O (reachF F nx sh) X2 lo2 jx HF2.out (HR2.out.ints HI.out.1 HI.out.2.2 HK.out) hjn)
              clear he0
              go_wp2_with (first | (go_at_call 117; refine (HJ.out _).mono ?_; rintro e w1 ⟨rfl, hww⟩; obtain rfl := hww.symm))
              refine HRc2.out.mono ?_
              rintro e W4 ⟨X4, lo4, rfl, hf4, hr4, hlo4⟩
              have hl4 := reach_lo (s := sh) hlo4
              go_wp2
              go_ret
              refine ⟨X4, lo4, by rw [HZ.out.1]; rfl, by rw [HZ.out.2]; exact hf4, (HB.out.r.trans HR2.out).trans hr4, Nat.le_trans hl4.1 HL2.out.1, fun j h1 h2 => ?_⟩
              rw [HZ.out.2] at h1
              by_cases h9 : (reachF F nx sh).H j = true
              · exact Nat.le_trans hl4.1 (HL2.out.2 j h9 h2)
              · exact hl4.2 j h1 (by simpa using h9)
            · have d0 : (e1 != 0) = true := by simpa using he0
              have HZ := Lib.hid (HX0.out he0)
              clear he0
              go_wp2
              go_ret
              refine ⟨X2, lo2, by rw [HZ.out.1]; rfl, by rw [HZ.out.2]; exact HF2.out, HB.out.r.trans HR2.out, HL2.out.1, fun j h1 h2 => ?_⟩
              rw [HZ.out.2] at h1
              exact HL2.out.2 j h1 h2
          · have HJT : Hid (jumpB (K.D k) = false) := Lib.hid (decide_eq_false (by omega))
            have HJ : Hid (∀ V, Calls Try.prog 117 #[.int .i64 (K.D k : Nat)] V fun e w' => e = .returned (.bool false) ∧ w' = V) := Lib.hid fun V => HJT.out ▸ jumps_c (K.D k) V
            have HX0 : Hid (stE K.P K.m K.n K.D (K.P.sk K.m) F k = e1 ∧ stF K.P K.m K.n K.D (K.P.sk K.m) F k = reachF F (nxt K.D k) sh) := Lib.hid (by
              have h1 := HOk.out
              have h3 := jm_off K.D k (reachF F (nxt K.D k) sh) sh HJT.out
              rw [HG.out.1, HG.out.2, ← HS.out, HE1.out, h3.1, h3.2] at h1
              by_cases q : e1 = 0
              · rw [if_neg (fun z => z q), if_neg (fun z => z q)] at h1
                exact ⟨h1.1.trans q.symm, h1.2⟩
              · rw [if_pos q, if_pos q] at h1
                exact h1)
            clear h25 h26 h28
            generalize nxt K.D k = nx at *
            go_wp2_with (first | (go_at_call 128; refine (HRet.out _).mono ?_; rintro e w1 ⟨rfl, hww⟩; obtain rfl := hww.symm) | (go_at_call 129; refine (HOn.out _).mono ?_; rintro e w1 ⟨rfl, hww⟩; obtain rfl := hww.symm))
            go_quiet (fail)
            obtain ⟨V3, hV3⟩ : ∃ q, q = V.drewN nq := ⟨_, rfl⟩
            rw [← hV3]
            have hb3 : Below V.heap.size V V3 := hV3 ▸ below_drewN (Below.refl _ _) _
            replace HB := Lib.hid (HB.out.below hb3)
            replace HX := Lib.hid (HX.out.below hb3)
            replace HI : Hid (Ints V3 ra sh.l ∧ sh.l.length ≤ rc ∧ ∀ p, ra = some p → K.hi ≤ p.block) := Lib.hid ⟨HI.out.1.kept (Kept.of hb3), HI.out.2⟩
            have HRc := Lib.hid (HRch.out V3 O F X lo nx HB.out.f HI.out.1 hnn)
            clear g0 g1 g3 c60 c61 f4
            clear hb3 hV3
            have g0 : V3.cell? ⟨w.heap.size, 0, none⟩ = some (.int .i64 (K.D k : Nat)) := HB.out.x.cell 0
            have g1 : V3.cell? ⟨w.heap.size, 1, none⟩ = some (.int .i64 (opA K.D k)) := HB.out.x.cell 1
            have g3 : V3.cell? ⟨w.heap.size, 3, none⟩ = some (.int .i64 (szK (kindO (K.D k)) : Nat)) := HB.out.x.cell 3
            have c60 : V3.cell? ⟨t6, 0, none⟩ = some (.slice ra sh.l.length rc) := HX.out.cell 0
            have c61 : V3.cell? ⟨t6, 1, none⟩ = some (.int .i64 sh.h) := HX.out.cell 1
            have f4 : V3.cell? ⟨K.f, 4, none⟩ = some (.slice (K.A.cda K.m) K.n (K.A.cdc K.m)) := HB.out.f.f.cell 4
            go_wp2_with fail
            refine HRc.out.mono ?_
            rintro e W2 ⟨X2, lo2, rfl, hf2, hr2, hlo2⟩
            rw [HE1.out]
            have HL2 := Lib.hid (reach_lo (s := sh) hlo2)
            have HF2 := Lib.hid hf2
            have HR2 := Lib.hid hr2
            clear g0 g1 g3 c60 c61 f4
            clear hf2 hr2 hlo2
            have hgi : K.hi ≤ w.heap.size := HF.out.hi
            have HB2 : Hid (StB K O (reachF F nx sh) X2 lo2 k w W2) := Lib.hid ⟨HF2.out, HB.out.r.trans HR2.out, HR2.out.bx HB.out.x hgi HK.out⟩
            have g0 : W2.cell? ⟨w.heap.size, 0, none⟩ = some (.int .i64 (K.D k : Nat)) := HB2.out.x.cell 0
            have HEd : Hid (StepP K w O F lo k (.returned (.int .i64 e1)) W2) := Lib.hid ⟨X2, lo2, by rw [HX0.out.1], by rw [HX0.out.2]; exact HF2.out, HB.out.r.trans HR2.out, HL2.out.1, fun j h1 h2 => by
              rw [HX0.out.2] at h1
              exact HL2.out.2 j h1 h2⟩
            by_cases he0 : e1 = 0
            · subst he0
              go_wp2_with (first | (go_at_call 117; refine (HJ.out _).mono ?_; rintro e w1 ⟨rfl, hww⟩; obtain rfl := hww.symm))
              go_ret
              exact HEd.out
            · have d0 : (e1 != 0) = true := by simpa using he0
              clear he0
              go_wp2
              go_ret
              exact HEd.out
    · have d0 : (er != 0) = true := by simpa using her0
      have hx := st_a K.P K.m K.n K.D (K.P.sk K.m) F k HEr.out her0
      have HX2 := Lib.hid hx
      clear hx her0
      go_wp2
      go_ret
      exact HEnd.out er _ (Below.refl _ _) HX2.out
end Go.Proofs.Ytpiafgmncfibmaa.Vf
