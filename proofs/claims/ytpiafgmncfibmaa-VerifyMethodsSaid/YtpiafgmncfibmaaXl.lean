import Derived.Laws.MakeOwn
import Derived.Laws.BitsLemmas
import Derived.IntWalk
import Derived.Laws.BitsAllLaws
import Derived.Deep.DrawnRows
import Derived.Test.YtpiafgmncfibmaaXk
import Derived.Test.YtpiafgmncfibmaaWb
import Derived.Test.YtpiafgmncfibmaaRows
import Derived.WalkKit
import Derived.ProofKit
import Derived.OpenShut
import Derived.Deep.QuietTactic
import Derived.BigQuiet
import Derived.Outline
import Derived.WalkSmall
import Derived.WalkLawsBesides
import Derived.WalkSpells
import Derived.BigGuardPart
import Derived.RegionTactic
import Derived.Deep.RegionHeld3
import Derived.Lib.Hide
import Derived.Deep.MidRow
import Derived.Below
import Derived.Deep.RegionWith
import Derived.Deep.OwnRows
import Derived.Deep.AppendLies
import Derived.Deep.RegionLaw
import Derived.Deep.CutBlock
import Derived.Deep.DeepCutAuto
namespace Go.Proofs.Ytpiafgmncfibmaa.Vf
open Go.ChangeShapes Go.WideShapes Go.ChangeAt Go.RowKit
set_option linter.unusedVariables false

theorem begs_ge (n : Nat) (D : Nat → Nat) : ∀ (f k0 x : Nat), x ∈ begs n D f k0 → k0 ≤ x
  | 0, k0, x, h => by simp [begs] at h
  | f + 1, k0, x, h => by
    have hs := szK_bd (kindO (D k0))
    unfold begs at h
    split at h
    · split at h
      · rcases List.mem_cons.1 h with rfl | h
        · exact Nat.le_refl _
        · have := begs_ge n D f _ x h
          omega
      · simp at h
    · simp at h
theorem begs_asc (n : Nat) (D : Nat → Nat) : ∀ (f k0 : Nat), (begs n D f k0).Pairwise (· < ·)
  | 0, k0 => List.Pairwise.nil
  | f + 1, k0 => by
    have hs := szK_bd (kindO (D k0))
    unfold begs
    split
    · split
      · refine List.Pairwise.cons (fun x hx => ?_) (begs_asc n D f _)
        have := begs_ge n D f _ x hx
        omega
      · exact List.Pairwise.nil
    · exact List.Pairwise.nil
theorem getD_mem {l : List Nat} {i : Nat} (h : i < l.length) : l.getD i 0 ∈ l := by
  rw [List.getD_eq_getElem?_getD, List.getElem?_eq_getElem h]
  exact List.getElem_mem h
theorem mem_getD {l : List Nat} {x : Nat} (h : x ∈ l) : ∃ i, i < l.length ∧ l.getD i 0 = x := by
  obtain ⟨i, hi, he⟩ := List.mem_iff_getElem.1 h
  exact ⟨i, hi, by rw [List.getD_eq_getElem?_getD, List.getElem?_eq_getElem hi]; exact he⟩
theorem asc_lt {l : List Nat} (h : l.Pairwise (· < ·)) {i j : Nat} (hij : i < j) (hj : j < l.length) : l.getD i 0 < l.getD j 0 := by
  rw [List.getD_eq_getElem?_getD, List.getD_eq_getElem?_getD, List.getElem?_eq_getElem hj, List.getElem?_eq_getElem (Nat.lt_trans hij hj)]
  exact List.pairwise_iff_getElem.1 h i j (Nat.lt_trans hij hj) hj hij
theorem chkB_off {P : Pg} {m n : Nat} {D : Nat → Nat} {O : Nat → Bool} {k : Nat} (h : ¬ O k = true) : chkB P m n D O k = 0 := if_neg h
theorem chkL_some {P : Pg} {m n : Nat} {D : Nat → Nat} {i : Nat} (hi : i < (begs n D n 0).length) (h1 : chkB P m n D (inL (begs n D n 0)) ((begs n D n 0).getD i 0) ≠ 0) (h2 : ∀ j, j < i → chkB P m n D (inL (begs n D n 0)) ((begs n D n 0).getD j 0) = 0) : chkR P m n D (inL (begs n D n 0)) = ((begs n D n 0).getD i 0, chkB P m n D (inL (begs n D n 0)) ((begs n D n 0).getD i 0)) := by
  refine chkR_some (begs_chain n D n 0 (by omega) _ (getD_mem hi)).1 h1 fun x hx => ?_
  by_cases hO : inL (begs n D n 0) x = true
  · obtain ⟨j, hj, rfl⟩ := mem_getD (inL_iff.1 hO)
    by_cases hji : j < i
    · exact h2 j hji
    · by_cases he : j = i
      · subst he; omega
      · have := asc_lt (begs_asc n D n 0) (show i < j by omega) hj
        omega
  · exact chkB_off hO
theorem chkL_none {P : Pg} {m n : Nat} {D : Nat → Nat} (h : ∀ j, j < (begs n D n 0).length → chkB P m n D (inL (begs n D n 0)) ((begs n D n 0).getD j 0) = 0) : chkR P m n D (inL (begs n D n 0)) = (0, 0) := by
  refine chkR_none fun x hx => ?_
  by_cases hO : inL (begs n D n 0) x = true
  · obtain ⟨j, hj, rfl⟩ := mem_getD (inL_iff.1 hO)
    exact h j hj
  · exact chkB_off hO
theorem mem_ofNat {l : List Nat} {p : Int} (n : Nat) (hn : ∀ x, x ∈ l → x < n) : decide (p ∈ l.map Int.ofNat) = decide (0 ≤ p ∧ p < n ∧ inL l p.toNat = true) := by
  refine decide_eq_decide.2 ⟨fun h => ?_, fun h => ?_⟩
  · obtain ⟨x, hx, rfl⟩ := List.mem_map.1 h
    have := hn x hx
    exact ⟨by simp, by simpa using this, inL_iff.2 (by simpa using hx)⟩
  · obtain ⟨h0, h1, h2⟩ := h
    exact List.mem_map.2 ⟨p.toNat, inL_iff.1 h2, by simp; omega⟩
/-- The document's state at its beginning. -/
theorem info72x : (Try.prog.info? 72).map (fun i => (i.zero, i.size, i.bytes)) = some (some (.agg #[.slice none 0 0, .int .i64 0]), 2, 32) := by kernel_rfl
theorem make72 (n : Nat) (hn : n ≤ 5000) (w : World) : (Instr.makeSlice 66 (.int .i64 (n : Int)) (.int .i64 (n : Int))).run Try.prog w = .ok (.slice (some ⟨w.heap.size, 0, none⟩) n n) (w.alloc (.cells (madeCells #[.slice none 0 0, .int .i64 0] (n * 2)) 72)) := by
  obtain ⟨i, hi, hz, hs, hb⟩ := info_parts info72x
  have h := run_make_rowN 66 72 i _ Try.underlying66 hi hz .i64 .i64 n n (Nat.le_refl _) (by rw [hb]; omega) (by omega) w
  rw [hs] at h
  exact h
def Nk (x : Nat) (n b : Nat) (V : World) : Prop := match x with
  | 0 => RowS V b 72 n 2 (fun _ j => if j = 0 then .slice none 0 0 else .int .i64 0)
  | _ => RowF V b 4 n (fun _ => .bool false)
theorem Nk.below {x n b : Nat} {V V' : World} (h : Nk x n b V) (hb : Below V.heap.size V V') : Nk x n b V' := by
  unfold Nk at h ⊢
  split at h
  · exact RowS.below h hb
  · rename_i h1
    match x, h1 with
    | 0, h1 => exact absurd rfl h1
    | x + 1, _ => exact RowF.below h hb
theorem nk0 (n : Nat) (V : World) : ∃ V' b, V' = V.alloc (.cells (madeCells #[.slice none 0 0, .int .i64 0] (n * 2)) 72) ∧ b = V.heap.size ∧ Nk 0 n b V' ∧ Below V.heap.size V V' ∧ V'.heap.size = V.heap.size + 1 :=
  ⟨_, _, rfl, rfl, made_rowS V #[.slice none 0 0, .int .i64 0] n 2 72 rfl (by decide) (fun j => if j = 0 then .slice none 0 0 else .int .i64 0) zero2, (Below.refl _ _).alloc (Nat.le_refl _) _, World.size_alloc _ _⟩
theorem nk1 (n : Nat) (V : World) : ∃ V' b, V' = V.alloc (.cells (madeCells #[.bool false] n) 4) ∧ b = V.heap.size ∧ Nk 1 n b V' ∧ Below V.heap.size V V' ∧ V'.heap.size = V.heap.size + 1 :=
  ⟨_, _, rfl, rfl, made_rowF V (.bool false) n 4, (Below.refl _ _).alloc (Nat.le_refl _) _, World.size_alloc _ _⟩
def St0 (P : Pg) (A : Ad) (m : Nat) (w : World) (p : Value) (V : World) : Prop := ∃ (K : Fk) (X : Fx), K.P = P ∧ K.A = A ∧ K.m = m ∧ K.w0 = w ∧ FkOk K ∧ w.heap.size < K.f ∧ w.heap.size < K.ro ∧ w.heap.size < K.rs ∧ w.heap.size < K.rh ∧ w.heap.size < K.rg ∧ p = .pointer (some ⟨K.f, 0, none⟩) ∧ StC K V Fl.n0 X
theorem st0 {P : Pg} {A : Ad} {m : Nat} {w V : World} (h : PgAt w P A) (hf : Fits P A) (hc : Caps P A) (hk : P.chk = 0) (hm : m < P.nm) {rs rh rg : Nat} (h1 : Nk 0 (P.cn m) rs V) (h2 : Nk 1 (P.cn m) rh V) (h3 : Nk 1 (P.cn m) rg V) (hb : Below w.heap.size w V) (hz : w.heap.size < V.heap.size) (l1 : w.heap.size < rs) (l2 : w.heap.size < rh) (l3 : w.heap.size < rg) (hne : rh ≠ rg) :
    St0 P A m w (.pointer (some ⟨V.heap.size, 0, none⟩)) (V.alloc (.cells #[.slice (some ⟨rs, 0, none⟩) (P.cn m) (P.cn m), .slice (some ⟨rh, 0, none⟩) (P.cn m) (P.cn m), .slice (some ⟨rg, 0, none⟩) (P.cn m) (P.cn m)] 122)) := by
  obtain ⟨_, _, hl⟩ := chk_lims hk
  obtain ⟨_, q2, q3, q4, q5⟩ := hl m hm
  have hba : Below V.heap.size V (V.alloc (.cells #[.slice (some ⟨rs, 0, none⟩) (P.cn m) (P.cn m), .slice (some ⟨rh, 0, none⟩) (P.cn m) (P.cn m), .slice (some ⟨rg, 0, none⟩) (P.cn m) (P.cn m)] 122)) := (Below.refl _ _).alloc (Nat.le_refl _) _
  have e1 : RowS V rs 72 (P.cn m) 2 (fun _ j => if j = 0 then .slice none 0 0 else .int .i64 0) := h1
  have e2 : RowF V rh 4 (P.cn m) (fun _ => .bool false) := h2
  have e3 : RowF V rg 4 (P.cn m) (fun _ => .bool false) := h3
  refine ⟨⟨P, A, m, w, V.heap.size, V.heap.size, rs, rh, rg, V.heap.size + 1⟩, ⟨fun _ => none, fun _ => 0⟩, rfl, rfl, rfl, rfl, ⟨h, hf, hc, hm, q5, q4, q3, q2, hb.size, Nat.lt_succ_self _, hb.size, Nat.lt_succ_self _, Nat.le_of_lt l1, Nat.lt_succ_of_lt e1.lt, Nat.le_of_lt l2, Nat.lt_succ_of_lt e2.lt, Nat.le_of_lt l3, Nat.lt_succ_of_lt e3.lt, hne⟩, hz, hz, l1, l2, l3, rfl, ?_⟩
  exact ⟨Bx.new _ _ _, (e1.below hba).ext (fun k j _ _ => rfl), e2.below hba, e3.below hba, fun i hi => Ints.nil _ _, fun i hi => Nat.le_refl _, fun i hi p hp => (by cases hp), fun i hi => (by simp [Fl.n0]), fun i hi => Int.le_refl _, fun i hi => (by simp [Fl.n0]), hb.trans (hba.mono hb.size), by simp⟩
theorem Fr.box {K : Fk} {w w' : World} {b e : Nat} {C : Array Value} (h : Fr K w w') (hb : Bx w b C e) (h1 : b < K.f) (h2 : b < K.ro) (h3 : b < K.rs) (h4 : b < K.rh) (h5 : b < K.rg) : Bx w' b C e := (h.same b hb.lt (by omega) (by omega) (by omega) (by omega) (by omega)).trans hb
/-- What stands at the head of run's loop. -/
structure GoX (K : Fk) (w : World) (O : Nat → Bool) (g : Nat) (V : World) (F : Fl) (X : Fx) : Prop where
  f : StC K V F X
  r : Fr K w V
  ho : ∀ i, i < K.n → F.H i = true → O i = true
  run : ∃ fu, cntG F K.n < fu ∧ runF K.P K.m K.n K.D (K.P.sk K.m) fu F = K.run
  ms : cntG F K.n ≤ g
theorem GoX.next {K : Fk} {w : World} {O : Nat → Bool} {g : Nat} {V V' : World} {F : Fl} {X X' : Fx} {k : Nat} (h : GoX K w O g V F X) (hk : k < K.n) (hlw : ∀ i, i < k → ¬ (F.H i = true ∧ F.G i = false)) (hO : O k = true) (hR : Rdy2 K O) (hH : F.H k = true) (hG : F.G k = false) (he : stE K.P K.m K.n K.D (K.P.sk K.m) (F.gone k) k = 0)
    (hf : StC K V' (stF K.P K.m K.n K.D (K.P.sk K.m) (F.gone k) k) X') (hr : Fr K w V') :
    ∃ g', g' < g ∧ GoX K w O g' V' (stF K.P K.m K.n K.D (K.P.sk K.m) (F.gone k) k) X' := by
  have hc : cntG (stF K.P K.m K.n K.D (K.P.sk K.m) (F.gone k) k) K.n + 1 = cntG F K.n := by
    have h1 := cntG_gone hG K.n
    rw [if_pos hk] at h1
    rw [cntG_congr (stF_G _ _ _ _ _ _ _) K.n]
    exact h1
  have hp := pick_some hk hH hG hlw
  obtain ⟨fu, hfu, hrun⟩ := h.run
  obtain ⟨fu, rfl⟩ : ∃ q, fu = q + 1 := ⟨fu - 1, by omega⟩
  rw [run_go _ _ _ _ _ fu hp he] at hrun
  have hms := h.ms
  refine ⟨cntG (stF K.P K.m K.n K.D (K.P.sk K.m) (F.gone k) k) K.n, by omega, hf, hr, fun i hi hHi => ?_, ⟨fu, by omega, hrun⟩, Nat.le_refl _⟩
  by_cases h1 : (F.gone k).H i = true
  · exact h.ho i hi h1
  · rcases stF_H _ _ _ _ _ _ _ _ hHi (by simpa using h1) with ⟨rfl, h2⟩ | ⟨rfl, h2⟩
    · exact (hR k hk hO).1 h2
    · exact (hR k hk hO).2 h2
theorem GoX.bad {K : Fk} {w : World} {O : Nat → Bool} {g : Nat} {V : World} {F : Fl} {X : Fx} {k : Nat} {er : Int} (h : GoX K w O g V F X) (hk : k < K.n) (hlw : ∀ i, i < k → ¬ (F.H i = true ∧ F.G i = false)) (hH : F.H k = true) (hG : F.G k = false) (he : stE K.P K.m K.n K.D (K.P.sk K.m) (F.gone k) k = er) (h0 : er ≠ 0) : K.run.2 = (k, er) := by
  obtain ⟨fu, hfu, hrun⟩ := h.run
  obtain ⟨fu, rfl⟩ : ∃ q, fu = q + 1 := ⟨fu - 1, by omega⟩
  rw [run_bad _ _ _ _ _ fu (pick_some hk hH hG hlw) (by rw [he]; exact h0), he] at hrun
  rw [← hrun]
theorem GoX.fin {K : Fk} {w : World} {O : Nat → Bool} {g : Nat} {V : World} {F : Fl} {X : Fx} (h : GoX K w O g V F X) (hlw : ∀ i, i < K.n → ¬ (F.H i = true ∧ F.G i = false)) : K.run = (F, 0, 0) := by
  obtain ⟨fu, hfu, hrun⟩ := h.run
  rw [run_none _ _ _ _ _ fu (pick_none hlw)] at hrun
  exact hrun.symm
theorem GoX.first {K : Fk} {X : Fx} {w : World} {O : Nat → Bool} (h : StC K w Fl.n0 X) (hK : FkOk K) (hO : O 0 = true) : GoX K w O K.n (w.setCell ⟨K.rh, 0, none⟩ (.bool true)) Fl.z X := by
  have h1 := h.setH hK 0 true
  have e : (⟨Fl.n0.S, set1 Fl.n0.H 0 true, Fl.n0.G⟩ : Fl) = Fl.z := by
    unfold Fl.z Fl.n0 set1
    congr 1
  refine ⟨e ▸ h1, Fr.set (.inr (.inr (.inr (.inl rfl)))) _ _, fun i hi hHi => ?_, ⟨K.n + 1, Nat.lt_succ_of_le (cntG_le _ _), rfl⟩, cntG_le _ _⟩
  have : i = 0 := by simpa [Fl.z] using hHi
  rw [this]; exact hO
def StOk (P : Pg) (A : Ad) (m : Nat) (w0 : World) (p : Value) (w' : World) : Prop := ∃ (K : Fk) (X : Fx), K.P = P ∧ K.A = A ∧ K.m = m ∧ K.w0 = w0 ∧ FkOk K ∧ p = .pointer (some ⟨K.f, 0, none⟩) ∧ StC K w' (flowF P m) X
def RunX (P : Pg) (A : Ad) (m : Int) (w : World) (e : Ending) (w' : World) : Prop :=
  ∃ p, e = .returned (.tuple #[p, .int .i64 ((methR P m).1 : Nat), .int .i64 (methR P m).2]) ∧ Below w.heap.size w w' ∧ ((methR P m).2 = 0 → StOk P A m.toNat w p w')
theorem runX_arg {P : Pg} {A : Ad} {m : Int} {w w' : World} (h : methR P m = (0, 1)) (hb : Below w.heap.size w w') : RunX P A m w (.returned (.tuple #[.pointer none, .int .i64 0, .int .i64 1])) w' := by
  unfold RunX
  rw [h]
  exact ⟨_, rfl, hb, fun q => by cases q⟩
theorem methR_m {P : Pg} {m p : Nat} {e : Int} (hk : P.chk = 0) (hm : m < P.nm) (h : flowR P m = (p, e)) : methR P m = (if e = 0 then 0 else p, e) := by
  rw [methR_3 hk (decide_eq_true ⟨by omega, by omega⟩), Int.toNat_natCast, h]
theorem runX_bad {P : Pg} {A : Ad} {m : Nat} {w w' : World} {p : Nat} {e : Int} (hk : P.chk = 0) (hm : m < P.nm) (h : flowR P m = (p, e)) (he : e ≠ 0) (hb : Below w.heap.size w w') : RunX P A m w (.returned (.tuple #[.pointer none, .int .i64 (p : Nat), .int .i64 e])) w' := by
  unfold RunX
  rw [methR_m hk hm h, if_neg he]
  exact ⟨_, rfl, hb, fun q => absurd q he⟩
theorem runX_ok {K : Fk} {X : Fx} {p : Nat} {w' : World} (hK : FkOk K) (hk : K.P.chk = 0) (h : flowR K.P K.m = (p, 0)) (hf : StC K w' (flowF K.P K.m) X) : RunX K.P K.A K.m K.w0 (.returned (.tuple #[.pointer (some ⟨K.f, 0, none⟩), .int .i64 0, .int .i64 0])) w' := by
  unfold RunX
  rw [methR_m hk hK.m h, if_pos rfl]
  refine ⟨_, rfl, hf.b, fun _ => ⟨K, X, rfl, rfl, ?_, rfl, hK, rfl, hf⟩⟩
  simp
end Go.Proofs.Ytpiafgmncfibmaa.Vf
