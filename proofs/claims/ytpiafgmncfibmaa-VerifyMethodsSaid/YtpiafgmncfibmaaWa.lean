import Derived.Deep.CutRange
import Derived.Laws.MakeOwn
import Derived.Laws.BitsLemmas
import Derived.IntWalk
import Derived.Laws.BitsAllLaws
import Derived.Deep.DrawnRows
import Derived.Test.YtpiafgmncfibmaaVz
import Derived.Test.YtpiafgmncfibmaaRows
import Derived.WalkKit
import Derived.ProofKit
import Derived.OpenShut
import Derived.Deep.QuietTactic
import Derived.BigQuiet
import Derived.Outline
import Derived.WalkSmall
import Derived.WalkLawsBesides
import Derived.WalkSpells
import Derived.BigGuardPart
import Derived.RegionTactic
import Derived.Deep.RegionHeld3
import Derived.Lib.Hide
import Derived.Deep.MidRow
import Derived.Below
import Derived.Deep.RegionWith
import Derived.Deep.OwnRows
import Derived.Deep.AppendLies
import Derived.Deep.RegionLaw
import Derived.Deep.CutBlock
import Derived.Deep.DeepCutAuto
namespace Go.Proofs.Ytpiafgmncfibmaa.Vf
open Go.ChangeShapes Go.WideShapes Go.ChangeAt Go.RowKit
set_option linter.unusedVariables false

/-! ### The flow of a method -/
theorem begs_chain (n : Nat) (D : Nat → Nat) : ∀ (f k0 : Nat), n ≤ k0 + f → ∀ k, k ∈ begs n D f k0 → k < n ∧ rdE n D k = 0 ∧ (nxt D k ∈ begs n D f k0 ∨ nxt D k = endP n D f k0)
  | 0, k0, h, k, hk => by simp [begs] at hk
  | f + 1, k0, h, k, hk => by
    have hs := szK_bd (kindO (D k0))
    unfold begs at hk
    by_cases h0 : k0 < n
    · rw [if_pos h0] at hk
      by_cases hr : rdE n D k0 = 0
      · rw [if_pos hr] at hk
        have hb : begs n D (f + 1) k0 = k0 :: begs n D f (k0 + szK (kindO (D k0))) := by
          show (if k0 < n then (if rdE n D k0 = 0 then _ else _) else _) = _
          rw [if_pos h0, if_pos hr]
        have he : endP n D (f + 1) k0 = endP n D f (k0 + szK (kindO (D k0))) := by
          show (if k0 < n then (if rdE n D k0 = 0 then _ else _) else _) = _
          rw [if_pos h0, if_pos hr]
        rw [hb, he]
        rcases List.mem_cons.1 hk with rfl | hk
        · refine ⟨h0, hr, ?_⟩
          have hnx : nxt D k = k + szK (kindO (D k)) := rfl
          rw [hnx]
          cases f with
          | zero => exact .inr rfl
          | succ f =>
            by_cases h1 : k + szK (kindO (D k)) < n
            · by_cases h2 : rdE n D (k + szK (kindO (D k))) = 0
              · refine .inl (List.mem_cons_of_mem _ ?_)
                show _ ∈ (if k + szK (kindO (D k)) < n then (if rdE n D (k + szK (kindO (D k))) = 0 then _ else _) else _)
                rw [if_pos h1, if_pos h2]
                exact List.mem_cons_self
              · refine .inr ?_
                show _ = (if k + szK (kindO (D k)) < n then (if rdE n D (k + szK (kindO (D k))) = 0 then _ else _) else _)
                rw [if_pos h1, if_neg h2]
            · refine .inr ?_
              show _ = (if k + szK (kindO (D k)) < n then (if rdE n D (k + szK (kindO (D k))) = 0 then _ else _) else _)
              rw [if_neg h1]
        · obtain ⟨h1, h2, h3⟩ := begs_chain n D f _ (by omega) k hk
          exact ⟨h1, h2, h3.imp (List.mem_cons_of_mem _) id⟩
      · rw [if_neg hr] at hk
        simp at hk
    · rw [if_neg h0] at hk
      simp at hk
theorem endP_bad (n : Nat) (D : Nat → Nat) : ∀ (f k0 : Nat), n ≤ k0 + f → endP n D f k0 < n → rdE n D (endP n D f k0) ≠ 0
  | 0, k0, h, hl => by unfold endP at hl; omega
  | f + 1, k0, h, hl => by
    have hs := szK_bd (kindO (D k0))
    unfold endP at hl ⊢
    by_cases h0 : k0 < n
    · rw [if_pos h0] at hl ⊢
      by_cases hr : rdE n D k0 = 0
      · rw [if_pos hr] at hl ⊢
        exact endP_bad n D f _ (by omega) hl
      · rw [if_neg hr] at hl ⊢
        exact hr
    · rw [if_neg h0] at hl
      omega
theorem rdR_ok {n : Nat} {D : Nat → Nat} (h : (rdR n D).2 = 0) : n ≤ endP n D n 0 ∧ rdR n D = (0, 0) := by
  unfold rdR at h ⊢
  by_cases hl : endP n D n 0 < n
  · rw [if_pos hl] at h
    exact absurd h (endP_bad n D n 0 (by omega) hl)
  · rw [if_neg hl]
    exact ⟨by omega, rfl⟩
theorem inL_iff {l : List Nat} {k : Nat} : inL l k = true ↔ k ∈ l := by simp [inL]
theorem nxt_le {n : Nat} {D : Nat → Nat} {k : Nat} (h : rdE n D k = 0) : nxt D k ≤ n := by
  unfold rdE at h
  unfold nxt
  split at h
  · cases h
  · split at h
    · cases h
    · omega
theorem rdy_of {K : Fk} (hr : (rdR K.n K.D).2 = 0) (hc : (chkR K.P K.m K.n K.D (inL (begs K.n K.D K.n 0))).2 = 0) (n0 : 0 < K.n) : Rdy K (inL (begs K.n K.D K.n 0)) ∧ Rdy2 K (inL (begs K.n K.D K.n 0)) ∧ inL (begs K.n K.D K.n 0) 0 = true := by
  have hz := chkR_zero hc
  obtain ⟨he, _⟩ := rdR_ok hr
  have main : ∀ k, k < K.n → inL (begs K.n K.D K.n 0) k = true → rdE K.n K.D k = 0 ∧ nmB K.P K.m (K.D k) (opA K.D k) (opB K.D k) = true ∧ (jumpB (K.D k) = true → 0 ≤ (k : Int) + opA K.D k ∧ (k : Int) + opA K.D k < K.n ∧ inL (begs K.n K.D K.n 0) ((k : Int) + opA K.D k).toNat = true) := fun k hk hO => by
    have h1 := hz k hk
    unfold chkB at h1
    rw [if_pos hO] at h1
    obtain ⟨_, h2, _⟩ := begs_chain K.n K.D K.n 0 (by omega) k (inL_iff.1 hO)
    refine ⟨h2, ?_, fun hj => ?_⟩
    · cases h3 : nmB K.P K.m (K.D k) (opA K.D k) (opB K.D k) with
      | true => rfl
      | false => rw [if_pos h3] at h1; cases h1
    · refine Classical.byContradiction fun hq => ?_
      split at h1
      · cases h1
      · rw [if_pos ⟨hj, hq⟩] at h1
        cases h1
  refine ⟨fun k hk hO => ?_, fun k hk hO => ?_, ?_⟩
  · obtain ⟨h1, h2, h3⟩ := main k hk hO
    refine ⟨h1, h2, fun hj => ?_⟩
    obtain ⟨h4, h5, _⟩ := h3 hj
    refine ⟨h4, ?_⟩
    unfold jmp
    omega
  · obtain ⟨h1, h2, h3⟩ := main k hk hO
    refine ⟨fun hn => ?_, fun hj => (h3 hj).2.2⟩
    obtain ⟨_, _, h6⟩ := begs_chain K.n K.D K.n 0 (by omega) k (inL_iff.1 hO)
    rcases h6 with h6 | h6
    · exact inL_iff.2 h6
    · have := nxt_le h1
      omega
  · refine inL_iff.2 ?_
    obtain ⟨f, hf⟩ : ∃ f, K.n = f + 1 := ⟨K.n - 1, by omega⟩
    have he2 := he
    rw [hf] at he2 ⊢
    unfold endP at he2
    unfold begs
    rw [if_pos (by omega)] at he2 ⊢
    by_cases h1 : rdE (f + 1) K.D 0 = 0
    · rw [if_pos h1]
      exact List.mem_cons_self
    · rw [if_neg h1] at he2
      omega
/-- What flowOf tells: the place, the error. -/
def flowR (P : Pg) (m : Nat) : Nat × Int :=
  if (rdR (P.cn m) (P.cd m)).2 ≠ 0 then rdR (P.cn m) (P.cd m)
  else if (chkR P m (P.cn m) (P.cd m) (inL (begs (P.cn m) (P.cd m) (P.cn m) 0))).2 ≠ 0 then chkR P m (P.cn m) (P.cd m) (inL (begs (P.cn m) (P.cd m) (P.cn m) 0))
  else (runF P m (P.cn m) (P.cd m) (P.sk m) (P.cn m + 1) Fl.z).2
def flowF (P : Pg) (m : Nat) : Fl := (runF P m (P.cn m) (P.cd m) (P.sk m) (P.cn m + 1) Fl.z).1
/-- What stands behind a flow that is right. -/
def FlowOk (P : Pg) (A : Ad) (m : Nat) (w0 : World) (p : Value) (w' : World) : Prop := ∃ (K : Fk) (X : Fx) (lo : Nat), K.P = P ∧ K.A = A ∧ K.m = m ∧ K.w0 = w0 ∧ FkOk K ∧ p = .pointer (some ⟨K.f, 0, none⟩) ∧ FlC K w' (inL (begs (P.cn m) (P.cd m) (P.cn m) 0)) (flowF P m) X lo
def FlowP (P : Pg) (A : Ad) (m : Nat) (w : World) (e : Ending) (w' : World) : Prop :=
  ∃ p, e = .returned (.tuple #[p, .int .i64 (if (flowR P m).2 = 0 then 0 else (flowR P m).1 : Nat), .int .i64 (flowR P m).2]) ∧ Below w.heap.size w w' ∧ ((flowR P m).2 = 0 → FlowOk P A m w p w')
theorem made_rowF (w : World) (z : Value) (n : Nat) (t : TypeId) : RowF (w.alloc (.cells (madeCells #[z] n) t)) w.heap.size t n (fun _ => z) := by
  refine ⟨_, heap_alloc_new _ _, size_madeCells _ _, fun i hi => ?_⟩
  unfold madeCells
  rw [Array.getElem?_map, Array.getElem?_range, if_pos hi]
  show some (#[z][i % 1]!) = some z
  rw [Nat.mod_one]
  rfl
theorem made_rowS (w : World) (z : Array Value) (n s : Nat) (t : TypeId) (hz : z.size = s) (hs : 0 < s) (G : Nat → Value) (hG : ∀ j, j < s → z[j]! = G j) : RowS (w.alloc (.cells (madeCells z (n * s)) t)) w.heap.size t n s (fun _ j => G j) := by
  refine ⟨_, heap_alloc_new _ _, size_madeCells _ _, fun k j hk hj => ?_⟩
  have hlt : k * s + j < n * s := by
    have := Nat.mul_le_mul_right s (show k + 1 ≤ n from hk)
    rw [Nat.add_mul] at this
    omega
  have hm : (k * s + j) % z.size = j := by rw [hz, Nat.mul_comm, Nat.mul_add_mod, Nat.mod_eq_of_lt hj]
  unfold madeCells
  rw [Array.getElem?_map, Array.getElem?_range, if_pos hlt]
  show some (z[(k * s + j) % z.size]!) = _
  rw [hm, hG j hj]
theorem info74x : (Try.prog.info? 74).map (fun i => (i.zero, i.size, i.bytes)) = some (some (.agg #[.int .i64 0, .int .i64 0, .int .i64 0, .int .i64 0]), 4, 32) := by kernel_rfl
theorem info71x : (Try.prog.info? 71).map (fun i => (i.zero, i.size, i.bytes)) = some (some (.agg #[.slice none 0 0, .int .i64 0]), 2, 32) := by kernel_rfl
theorem info4x : (Try.prog.info? 4).map (fun i => (i.zero, i.size, i.bytes)) = some (some (.bool false), 1, 1) := by kernel_rfl
theorem run_make_rowN {P : Program} (t e : TypeId) (i : TypeInfo) (z : Value) (ht : P.underlying t = some (.slice e)) (hi : P.info? e = some i) (hz : i.zero = some z)
    (kl kc : IntKind) (n c : Nat) (hnc : n ≤ c) (hbytes : i.bytes * c ≤ 281474976710656) (h63 : c ≤ 9223372036854775807) (w : World) :
    (Instr.makeSlice t (.int kl (n : Int)) (.int kc (c : Int))).run P w = .ok (.slice (some ⟨w.heap.size, 0, none⟩) n c) (w.alloc (.cells (madeCells z.cells (c * i.size)) e)) := by
  have hb : (i.bytes : Int) * (c : Int) ≤ 281474976710656 := by
    have h : ((i.bytes * c : Nat) : Int) ≤ 281474976710656 := by omega
    rwa [Int.natCast_mul] at h
  have hr := run_make (P := P) w t e i z ht hi hz kl kc n c (by omega) (by omega) hb (by omega)
  simp only [Int.toNat_natCast] at hr
  exact hr
theorem make74 (n : Nat) (hn : n ≤ 5000) (w : World) : (Instr.makeSlice 118 (.int .i64 (n : Int)) (.int .i64 (n : Int))).run Try.prog w = .ok (.slice (some ⟨w.heap.size, 0, none⟩) n n) (w.alloc (.cells (madeCells #[.int .i64 0, .int .i64 0, .int .i64 0, .int .i64 0] (n * 4)) 74)) := by
  obtain ⟨i, hi, hz, hs, hb⟩ := info_parts info74x
  have h := run_make_rowN 118 74 i _ Try.underlying118 hi hz .i64 .i64 n n (Nat.le_refl _) (by rw [hb]; omega) (by omega) w
  rw [hs] at h
  exact h
theorem make71 (n : Nat) (hn : n ≤ 5000) (w : World) : (Instr.makeSlice 62 (.int .i64 (n : Int)) (.int .i64 (n : Int))).run Try.prog w = .ok (.slice (some ⟨w.heap.size, 0, none⟩) n n) (w.alloc (.cells (madeCells #[.slice none 0 0, .int .i64 0] (n * 2)) 71)) := by
  obtain ⟨i, hi, hz, hs, hb⟩ := info_parts info71x
  have h := run_make_rowN 62 71 i _ Try.underlying62 hi hz .i64 .i64 n n (Nat.le_refl _) (by rw [hb]; omega) (by omega) w
  rw [hs] at h
  exact h
theorem make4 (n : Nat) (hn : n ≤ 5000) (w : World) : (Instr.makeSlice 63 (.int .i64 (n : Int)) (.int .i64 (n : Int))).run Try.prog w = .ok (.slice (some ⟨w.heap.size, 0, none⟩) n n) (w.alloc (.cells (madeCells #[.bool false] n) 4)) := by
  obtain ⟨i, hi, hz, hs, hb⟩ := info_parts info4x
  have h := run_make_rowN 63 4 i _ Try.underlying63 hi hz .i64 .i64 n n (Nat.le_refl _) (by rw [hb]; omega) (by omega) w
  rw [hs, Nat.mul_one] at h
  exact h
/-- A row that was made: its block, what it is. -/
def Mk (x : Nat) (n b : Nat) (V : World) : Prop := match x with
  | 0 => RowS V b 74 n 4 (fun _ _ => .int .i64 0)
  | 1 => RowS V b 71 n 2 (fun _ j => if j = 0 then .slice none 0 0 else .int .i64 0)
  | _ => RowF V b 4 n (fun _ => .bool false)
theorem Mk.below {x n b : Nat} {V V' : World} (h : Mk x n b V) (hb : Below V.heap.size V V') : Mk x n b V' := by
  unfold Mk at h ⊢
  split at h
  · exact RowS.below h hb
  · exact RowS.below h hb
  · rename_i h1 h2
    match x, h1, h2 with
    | 0, h1, _ => exact absurd rfl h1
    | 1, _, h2 => exact absurd rfl h2
    | x + 2, _, _ => exact RowF.below h hb
theorem zero4 (j : Nat) (hj : j < 4) : (#[.int .i64 0, .int .i64 0, .int .i64 0, .int .i64 0] : Array Value)[j]! = .int .i64 0 := by
  have : j = 0 ∨ j = 1 ∨ j = 2 ∨ j = 3 := by omega
  rcases this with rfl | rfl | rfl | rfl <;> rfl
theorem zero2 (j : Nat) (hj : j < 2) : (#[.slice none 0 0, .int .i64 0] : Array Value)[j]! = if j = 0 then .slice none 0 0 else .int .i64 0 := by
  have : j = 0 ∨ j = 1 := by omega
  rcases this with rfl | rfl <;> rfl
theorem mk0 (n : Nat) (V : World) : ∃ V' b, V' = V.alloc (.cells (madeCells #[.int .i64 0, .int .i64 0, .int .i64 0, .int .i64 0] (n * 4)) 74) ∧ b = V.heap.size ∧ Mk 0 n b V' ∧ Below V.heap.size V V' ∧ V'.heap.size = V.heap.size + 1 :=
  ⟨_, _, rfl, rfl, made_rowS V #[.int .i64 0, .int .i64 0, .int .i64 0, .int .i64 0] n 4 74 rfl (by decide) (fun _ => .int .i64 0) zero4, (Below.refl _ _).alloc (Nat.le_refl _) _, World.size_alloc _ _⟩
theorem mk1 (n : Nat) (V : World) : ∃ V' b, V' = V.alloc (.cells (madeCells #[.slice none 0 0, .int .i64 0] (n * 2)) 71) ∧ b = V.heap.size ∧ Mk 1 n b V' ∧ Below V.heap.size V V' ∧ V'.heap.size = V.heap.size + 1 :=
  ⟨_, _, rfl, rfl, made_rowS V #[.slice none 0 0, .int .i64 0] n 2 71 rfl (by decide) (fun j => if j = 0 then .slice none 0 0 else .int .i64 0) zero2, (Below.refl _ _).alloc (Nat.le_refl _) _, World.size_alloc _ _⟩
theorem mk2 (n : Nat) (V : World) : ∃ V' b, V' = V.alloc (.cells (madeCells #[.bool false] n) 4) ∧ b = V.heap.size ∧ Mk 2 n b V' ∧ Below V.heap.size V V' ∧ V'.heap.size = V.heap.size + 1 :=
  ⟨_, _, rfl, rfl, made_rowF V (.bool false) n 4, (Below.refl _ _).alloc (Nat.le_refl _) _, World.size_alloc _ _⟩
/-- A flow at its beginning. -/
def Flow0 (P : Pg) (A : Ad) (m : Nat) (w : World) (p : Value) (V : World) : Prop := ∃ (K : Fk) (X : Fx), K.P = P ∧ K.A = A ∧ K.m = m ∧ K.w0 = w ∧ FkOk K ∧ p = .pointer (some ⟨K.f, 0, none⟩) ∧ FlC K V (inL []) Fl.n0 X 0
theorem flow0 {P : Pg} {A : Ad} {m : Nat} {w V : World} (h : PgAt w P A) (hf : Fits P A) (hc : Caps P A) (hk : P.chk = 0) (hm : m < P.nm) {ro rs rh rg : Nat} (h0 : Mk 0 (P.cn m) ro V) (h1 : Mk 1 (P.cn m) rs V) (h2 : Mk 2 (P.cn m) rh V) (h3 : Mk 2 (P.cn m) rg V) (hb : Below w.heap.size w V) (l0 : w.heap.size ≤ ro) (l1 : w.heap.size ≤ rs) (l2 : w.heap.size ≤ rh) (l3 : w.heap.size ≤ rg) (hne : rh ≠ rg) :
    Flow0 P A m w (.pointer (some ⟨V.heap.size, 0, none⟩)) (V.alloc (.cells #[.slice A.pa P.np A.pc, .slice A.ca P.nc A.cc, .slice A.ma P.nm A.mc, .int .i64 m, .slice (A.cda m) (P.cn m) (A.cdc m), .slice (some ⟨ro, 0, none⟩) (P.cn m) (P.cn m), .slice (some ⟨rs, 0, none⟩) (P.cn m) (P.cn m), .slice (some ⟨rh, 0, none⟩) (P.cn m) (P.cn m), .slice (some ⟨rg, 0, none⟩) (P.cn m) (P.cn m), .int .i64 0] 120)) := by
  obtain ⟨_, _, hl⟩ := chk_lims hk
  obtain ⟨_, q2, q3, q4, q5⟩ := hl m hm
  have hba : Below V.heap.size V (V.alloc (.cells #[.slice A.pa P.np A.pc, .slice A.ca P.nc A.cc, .slice A.ma P.nm A.mc, .int .i64 m, .slice (A.cda m) (P.cn m) (A.cdc m), .slice (some ⟨ro, 0, none⟩) (P.cn m) (P.cn m), .slice (some ⟨rs, 0, none⟩) (P.cn m) (P.cn m), .slice (some ⟨rh, 0, none⟩) (P.cn m) (P.cn m), .slice (some ⟨rg, 0, none⟩) (P.cn m) (P.cn m), .int .i64 0] 120)) := (Below.refl _ _).alloc (Nat.le_refl _) _
  have e0 : RowS V ro 74 (P.cn m) 4 (fun _ _ => .int .i64 0) := h0
  have e1 : RowS V rs 71 (P.cn m) 2 (fun _ j => if j = 0 then .slice none 0 0 else .int .i64 0) := h1
  have e2 : RowF V rh 4 (P.cn m) (fun _ => .bool false) := h2
  have e3 : RowF V rg 4 (P.cn m) (fun _ => .bool false) := h3
  refine ⟨⟨P, A, m, w, V.heap.size, ro, rs, rh, rg, V.heap.size + 1⟩, ⟨fun _ => none, fun _ => 0⟩, rfl, rfl, rfl, rfl, ⟨h, hf, hc, hm, q5, q4, q3, q2, hb.size, Nat.lt_succ_self _, l0, Nat.lt_succ_of_lt e0.lt, l1, Nat.lt_succ_of_lt e1.lt, l2, Nat.lt_succ_of_lt e2.lt, l3, Nat.lt_succ_of_lt e3.lt, hne⟩, rfl, ?_⟩
  exact ⟨Bx.new _ _ _, (e0.below hba).ext (fun k j _ _ => rfl), (e1.below hba).ext (fun k j _ _ => rfl), e2.below hba, e3.below hba, fun i hi => Ints.nil _ _, fun i hi => Nat.le_refl _, fun i hi p hp => (by cases hp), fun i hi => (by simp [Fl.n0]), fun i hi => Int.le_refl _, fun i hi => (by simp [Fl.n0]), hb.trans (hba.mono hb.size), by simp, Nat.zero_le _⟩
theorem opA_bd2 {n : Nat} {D : Nat → Nat} {k : Nat} (h : ∀ i, i < n → D i < 256) (hr : rdE n D k = 0) : -32768 ≤ opA D k ∧ opA D k ≤ 32767 := by
  unfold opA
  split
  · omega
  rename_i h0
  split
  · exact wrap8_bd _
  split
  · exact wrap16_bd _
  · have hs : 2 ≤ szK (kindO (D k)) := by
      unfold szK
      split
      · omega
      split
      · omega
      first | omega | (rw [if_neg h0]; omega)
    have hn := nxt_le hr
    unfold nxt at hn
    have := h (k + 1) (by omega)
    omega
theorem flowR_1 {P : Pg} {m p : Nat} {e : Int} (h : rdR (P.cn m) (P.cd m) = (p, e)) (he : e ≠ 0) : flowR P m = (p, e) := by
  unfold flowR
  rw [h, if_pos he]
theorem flowR_2 {P : Pg} {m p p0 : Nat} {e : Int} (h : rdR (P.cn m) (P.cd m) = (p0, 0)) (h2 : chkR P m (P.cn m) (P.cd m) (inL (begs (P.cn m) (P.cd m) (P.cn m) 0)) = (p, e)) (he : e ≠ 0) : flowR P m = (p, e) := by
  unfold flowR
  rw [h, h2, if_neg (fun q => q rfl), if_pos he]
theorem flowR_3 {P : Pg} {m p p0 p1 : Nat} {e : Int} {F : Fl} (h : rdR (P.cn m) (P.cd m) = (p0, 0)) (h2 : chkR P m (P.cn m) (P.cd m) (inL (begs (P.cn m) (P.cd m) (P.cn m) 0)) = (p1, 0)) (h3 : runF P m (P.cn m) (P.cd m) (P.sk m) (P.cn m + 1) Fl.z = (F, p, e)) : flowR P m = (p, e) ∧ flowF P m = F := by
  unfold flowR flowF
  rw [h, h2, h3, if_neg (fun q => q rfl), if_neg (fun q => q rfl)]
  exact ⟨rfl, rfl⟩
theorem flowP_bad {P : Pg} {A : Ad} {m : Nat} {w w' : World} {p : Nat} {e : Int} (h : flowR P m = (p, e)) (he : e ≠ 0) (hb : Below w.heap.size w w') : FlowP P A m w (.returned (.tuple #[.pointer none, .int .i64 (p : Nat), .int .i64 e])) w' := by
  have h2 : (flowR P m).2 = e := by rw [h]
  refine ⟨.pointer none, ?_, hb, fun q => absurd (h2.symm.trans q) he⟩
  rw [h, if_neg he]
theorem flowP_ok {K : Fk} {X : Fx} {lo p : Nat} {w' : World} (hK : FkOk K) (h : flowR K.P K.m = (p, 0)) (hf : FlC K w' (inL (begs (K.P.cn K.m) (K.P.cd K.m) (K.P.cn K.m) 0)) (flowF K.P K.m) X lo) : FlowP K.P K.A K.m K.w0 (.returned (.tuple #[.pointer (some ⟨K.f, 0, none⟩), .int .i64 0, .int .i64 0])) w' := by
  refine ⟨_, ?_, hf.b, fun _ => ⟨K, X, lo, rfl, rfl, rfl, rfl, hK, rfl, hf⟩⟩
  rw [h, if_pos rfl]
  rfl
set_option maxRecDepth 100000 in
set_option maxHeartbeats 20000000 in
theorem flowOf_c (P : Pg) (A : Ad) (m : Nat) (w : World) (h : PgAt w P A) (hf : Fits P A) (hc : Caps P A) (hk : P.chk = 0) (hm : m < P.nm) : Calls Try.prog 62 #[.agg (P.cells A), .int .i64 m] w (FlowP P A m w) := by
  have HP := Lib.hid h
  have HFt := Lib.hid hf
  have HCp := Lib.hid hc
  have HCk := Lib.hid hk
  obtain ⟨_, _, hl⟩ := chk_lims hk
  obtain ⟨_, q2, q3, q4, q5⟩ := hl m hm
  obtain ⟨bm, om, hma, hbm, hcm⟩ := h.m.resolve_left (by omega)
  have m4 : w.cell? ⟨bm, om + m * 5 + 4, none⟩ = some (.slice (A.cda m) (P.cn m) (A.cdc m)) := (hcm m hm).2.2.2.2
  have HMa := Lib.hid hma
  have hmi : (m : Int) < P.nm := by omega
  have hne : bm ≠ w.heap.size := by omega
  have HB0 : Hid (Bx (w.alloc (.cells #[.slice A.pa P.np A.pc, .slice A.ca P.nc A.cc, .slice A.ma P.nm A.mc] 26)) w.heap.size #[.slice A.pa P.np A.pc, .slice A.ca P.nc A.cc, .slice A.ma P.nm A.mc] 26 ∧ Below w.heap.size w (w.alloc (.cells #[.slice A.pa P.np A.pc, .slice A.ca P.nc A.cc, .slice A.ma P.nm A.mc] 26))) := Lib.hid ⟨Bx.new _ _ _, (Below.refl _ _).alloc (Nat.le_refl _) _⟩
  have HF0 : Hid (∀ V (ro rs rh rg : Nat), Mk 0 (P.cn m) ro V → Mk 1 (P.cn m) rs V → Mk 2 (P.cn m) rh V → Mk 2 (P.cn m) rg V → Below w.heap.size w V → w.heap.size ≤ ro → w.heap.size ≤ rs → w.heap.size ≤ rh → w.heap.size ≤ rg → rh ≠ rg → _) := Lib.hid fun V ro rs rh rg a b c d e f1 f2 f3 f4 f5 => flow0 h hf hc hk hm a b c d e f1 f2 f3 f4 f5
  clear h hf hc hk hl hcm
  show Calls Try.prog 62 #[.agg #[.slice A.pa P.np A.pc, .slice A.ca P.nc A.cc, .slice A.ma P.nm A.mc], .int .i64 m] w _
  rw [hma] at HB0 HF0 ⊢
  clear hma
  have HMk := Lib.hid (And.intro (make74 (P.cn m) (by omega)) (And.intro (make71 (P.cn m) (by omega)) (make4 (P.cn m) (by omega))))
  go_enter Try.func62, Try.ntmps62
  go_upto_region 2 with fail
  obtain ⟨W0, hW0⟩ : ∃ q, q = w.alloc (.cells #[.slice A.pa P.np A.pc, .slice A.ca P.nc A.cc, .slice (some ⟨bm, om, none⟩) P.nm A.mc] 26) := ⟨_, rfl⟩
  rw [← hW0] at HB0 ⊢
  clear hW0 m4
  go_cut [8] from 19 to 36 (fun s8 wx => Flow0 P A m w s8 wx)
  case first =>
    obtain ⟨n, hn⟩ : ∃ n, P.cn m = n := ⟨_, rfl⟩
    rw [hn] at HF0 HMk q4 q5 ⊢
    have HN := Lib.hid hn
    clear hn
    have HHO : Hid (∀ V, Bx V w.heap.size #[.slice A.pa P.np A.pc, .slice A.ca P.nc A.cc, .slice (some ⟨bm, om, none⟩) P.nm A.mc] 26 → V.cell? ⟨w.heap.size, 0, none⟩ = some (.slice A.pa P.np A.pc) ∧ V.cell? ⟨w.heap.size, 1, none⟩ = some (.slice A.ca P.nc A.cc) ∧ V.cell? ⟨w.heap.size, 2, none⟩ = some (.slice (some ⟨bm, om, none⟩) P.nm A.mc)) := Lib.hid fun V h => ⟨h.cell 0, h.cell 1, h.cell 2⟩
    have HB : Hid (Bx W0.drew w.heap.size #[.slice A.pa P.np A.pc, .slice A.ca P.nc A.cc, .slice (some ⟨bm, om, none⟩) P.nm A.mc] 26 ∧ Below w.heap.size w W0.drew) := Lib.hid ⟨HB0.out.1.below (Below.refl _ _).drew, HB0.out.2.drew⟩
    obtain ⟨mk_0, mk_1, mk_2⟩ := HMk.out
    clear HB0
    refine region_e 17 (fun w' => w'.cell? ⟨w.heap.size, 0, none⟩ = some (.slice A.pa P.np A.pc) ∧ w'.cell? ⟨w.heap.size, 1, none⟩ = some (.slice A.ca P.nc A.cc) ∧ w'.cell? ⟨w.heap.size, 2, none⟩ = some (.slice (some ⟨bm, om, none⟩) P.nm A.mc)) (by kernel_rfl) (HHO.out _ HB.out.1) (fun hHeld => ?_)
    have hws0 : w.heap.size ≤ W0.drew.heap.size := HB.out.2.size
    generalize W0.drew = V0 at hHeld HB hws0 ⊢
    refine AnyE.take2 (i := 0) [] (oi := { dst := some 19, op := Go.Op.load 26 (Go.Operand.tmp 2), type := 26, pos := "verify.go:70", after := #[], guard := none }) (v := ?_) rfl (by kernel_rfl) (by kernel_rfl) (by kernel_rfl) (by kernel_rfl) (fun _ _ _ h => h) (Or.inl ⟨by rfl, ?_⟩) (by assumption) ?_
    rotate_left
    · (intro w0 hSw; (try dsimp only at hSw); go_split_ands; go_simp; with_reducible rfl)
    try simp only [Act.put, List.setIfInBounds_toArray, List.set_cons_zero, List.set_cons_succ]
    refine AnyE.take2 (i := 1) [] (oi := { dst := some 20, op := Go.Op.move (Go.Operand.tmp 1), type := 3, pos := "verify.go:70", after := #[], guard := none }) (v := ?_) rfl (by kernel_rfl) (by kernel_rfl) (by kernel_rfl) (by kernel_rfl) (fun _ _ _ h => h) (Or.inl ⟨by rfl, ?_⟩) (by assumption) ?_
    rotate_left
    · (intro w0 hSw; (try dsimp only at hSw); go_split_ands; go_simp; with_reducible rfl)
    try simp only [Act.put, List.setIfInBounds_toArray, List.set_cons_zero, List.set_cons_succ]
    refine AnyE.take2 (i := 2) [] (oi := { dst := some 21, op := Go.Op.move (Go.Operand.tmp 7), type := 29, pos := "verify.go:70", after := #[], guard := none }) (v := ?_) rfl (by kernel_rfl) (by kernel_rfl) (by kernel_rfl) (by kernel_rfl) (fun _ _ _ h => h) (Or.inl ⟨by rfl, ?_⟩) (by assumption) ?_
    rotate_left
    · (intro w0 hSw; (try dsimp only at hSw); go_split_ands; go_simp; with_reducible rfl)
    try simp only [Act.put, List.setIfInBounds_toArray, List.set_cons_zero, List.set_cons_succ]
    refine AnyE.take2 (i := 3) [] (oi := { dst := some 22, op := Go.Op.move (Go.Operand.tmp 7), type := 29, pos := "verify.go:70", after := #[], guard := none }) (v := ?_) rfl (by kernel_rfl) (by kernel_rfl) (by kernel_rfl) (by kernel_rfl) (fun _ _ _ h => h) (Or.inl ⟨by rfl, ?_⟩) (by assumption) ?_
    rotate_left
    · (intro w0 hSw; (try dsimp only at hSw); go_split_ands; go_simp; with_reducible rfl)
    try simp only [Act.put, List.setIfInBounds_toArray, List.set_cons_zero, List.set_cons_succ]
    refine AnyE.take2 (i := 4) [] (oi := { dst := some 23, op := Go.Op.call { callee := Go.Callee.builtin Go.Builtin.len, args := #[Go.Operand.tmp 22], argTypes := #[29] }, type := 3, pos := "verify.go:70", after := #[{ on := 3, ground := Go.Ground.data }], guard := none }) (v := ?_) rfl (by kernel_rfl) (by kernel_rfl) (by kernel_rfl) (by kernel_rfl) (fun _ _ _ h => h) (Or.inl ⟨by rfl, ?_⟩) (by assumption) ?_
    rotate_left
    · (intro w0 hSw; (try dsimp only at hSw); go_split_ands; go_simp; with_reducible rfl)
    try simp only [Act.put, List.setIfInBounds_toArray, List.set_cons_zero, List.set_cons_succ]
    refine AnyE.take2 (i := 6) [] (oi := { dst := some 25, op := Go.Op.move (Go.Operand.tmp 7), type := 29, pos := "verify.go:70", after := #[], guard := none }) (v := ?_) rfl (by kernel_rfl) (by kernel_rfl) (by kernel_rfl) (by kernel_rfl) (fun _ _ _ h => h) (Or.inl ⟨by rfl, ?_⟩) (by assumption) ?_
    rotate_left
    · (intro w0 hSw; (try dsimp only at hSw); go_split_ands; go_simp; with_reducible rfl)
    try simp only [Act.put, List.setIfInBounds_toArray, List.set_cons_zero, List.set_cons_succ]
    refine AnyE.take2 (i := 7) [] (oi := { dst := some 26, op := Go.Op.call { callee := Go.Callee.builtin Go.Builtin.len, args := #[Go.Operand.tmp 25], argTypes := #[29] }, type := 3, pos := "verify.go:70", after := #[{ on := 6, ground := Go.Ground.data }], guard := none }) (v := ?_) rfl (by kernel_rfl) (by kernel_rfl) (by kernel_rfl) (by kernel_rfl) (fun _ _ _ h => h) (Or.inl ⟨by rfl, ?_⟩) (by assumption) ?_
    rotate_left
    · (intro w0 hSw; (try dsimp only at hSw); go_split_ands; go_simp; with_reducible rfl)
    try simp only [Act.put, List.setIfInBounds_toArray, List.set_cons_zero, List.set_cons_succ]
    refine AnyE.take2 (i := 9) [] (oi := { dst := some 28, op := Go.Op.move (Go.Operand.tmp 7), type := 29, pos := "verify.go:70", after := #[], guard := none }) (v := ?_) rfl (by kernel_rfl) (by kernel_rfl) (by kernel_rfl) (by kernel_rfl) (fun _ _ _ h => h) (Or.inl ⟨by rfl, ?_⟩) (by assumption) ?_
    rotate_left
    · (intro w0 hSw; (try dsimp only at hSw); go_split_ands; go_simp; with_reducible rfl)
    try simp only [Act.put, List.setIfInBounds_toArray, List.set_cons_zero, List.set_cons_succ]
    refine AnyE.take2 (i := 10) [] (oi := { dst := some 29, op := Go.Op.call { callee := Go.Callee.builtin Go.Builtin.len, args := #[Go.Operand.tmp 28], argTypes := #[29] }, type := 3, pos := "verify.go:70", after := #[{ on := 9, ground := Go.Ground.data }], guard := none }) (v := ?_) rfl (by kernel_rfl) (by kernel_rfl) (by kernel_rfl) (by kernel_rfl) (fun _ _ _ h => h) (Or.inl ⟨by rfl, ?_⟩) (by assumption) ?_
    rotate_left
    · (intro w0 hSw; (try dsimp only at hSw); go_split_ands; go_simp; with_reducible rfl)
    try simp only [Act.put, List.setIfInBounds_toArray, List.set_cons_zero, List.set_cons_succ]
    refine AnyE.take2 (i := 12) [] (oi := { dst := some 31, op := Go.Op.move (Go.Operand.tmp 7), type := 29, pos := "verify.go:70", after := #[], guard := none }) (v := ?_) rfl (by kernel_rfl) (by kernel_rfl) (by kernel_rfl) (by kernel_rfl) (fun _ _ _ h => h) (Or.inl ⟨by rfl, ?_⟩) (by assumption) ?_
    rotate_left
    · (intro w0 hSw; (try dsimp only at hSw); go_split_ands; go_simp; with_reducible rfl)
    try simp only [Act.put, List.setIfInBounds_toArray, List.set_cons_zero, List.set_cons_succ]
    refine AnyE.take2 (i := 13) [] (oi := { dst := some 32, op := Go.Op.call { callee := Go.Callee.builtin Go.Builtin.len, args := #[Go.Operand.tmp 31], argTypes := #[29] }, type := 3, pos := "verify.go:70", after := #[{ on := 12, ground := Go.Ground.data }], guard := none }) (v := ?_) rfl (by kernel_rfl) (by kernel_rfl) (by kernel_rfl) (by kernel_rfl) (fun _ _ _ h => h) (Or.inl ⟨by rfl, ?_⟩) (by assumption) ?_
    rotate_left
    · (intro w0 hSw; (try dsimp only at hSw); go_split_ands; go_simp; with_reducible rfl)
    try simp only [Act.put, List.setIfInBounds_toArray, List.set_cons_zero, List.set_cons_succ]
    refine AnyE.ready (rs := [5, 8, 11, 14]) (by kernel_rfl) (by simp) ?_
    refine AllE.cons (o := { dst := some 24, op := Go.Op.makeSlice 118 (Go.Operand.tmp 23) (Go.Operand.tmp 23), type := 118, pos := "verify.go:70", after := #[{ on := 4, ground := Go.Ground.data }, { on := 4, ground := Go.Ground.data }], guard := none }) rfl (fun KK hKK => ?_) (AllE.cons (o := { dst := some 27, op := Go.Op.makeSlice 62 (Go.Operand.tmp 26) (Go.Operand.tmp 26), type := 62, pos := "verify.go:70", after := #[{ on := 7, ground := Go.Ground.data }, { on := 7, ground := Go.Ground.data }], guard := none }) rfl (fun KK hKK => ?_) (AllE.cons (o := { dst := some 30, op := Go.Op.makeSlice 63 (Go.Operand.tmp 29) (Go.Operand.tmp 29), type := 63, pos := "verify.go:70", after := #[{ on := 10, ground := Go.Ground.data }, { on := 10, ground := Go.Ground.data }], guard := none }) rfl (fun KK hKK => ?_) (AllE.cons (o := { dst := some 33, op := Go.Op.makeSlice 63 (Go.Operand.tmp 32) (Go.Operand.tmp 32), type := 63, pos := "verify.go:70", after := #[{ on := 13, ground := Go.Ground.data }, { on := 13, ground := Go.Ground.data }], guard := none }) rfl (fun KK hKK => ?_) AllE.nil)))
    · go_simp
      obtain ⟨V1, ro, hV, hbq, hMk, hBel, hsz1⟩ := mk0 n V0
      rw [← hV, ← hbq]
      have Hro := Lib.hid hMk
      have HBel := Lib.hid hBel
      replace HB := Lib.hid (And.intro (HB.out.1.below HBel.out) (HB.out.2.trans (HBel.out.mono HB.out.2.size)))
      have hlo1 : ro = V0.heap.size := hbq
      have HLo1 := Lib.hid hlo1
      have hge1 : w.heap.size ≤ ro ∧ ro < V1.heap.size := by omega
      have hws1 : w.heap.size ≤ V1.heap.size := by omega
      clear hV hbq hMk hBel HBel hlo1 HLo1 hsz1
      refine hKK.out _ _ (HHO.out _ HB.out.1) (fun hHeld => ?_)
      clear hKK KK
      try simp only [Act.put, List.setIfInBounds_toArray, List.set_cons_zero, List.set_cons_succ]
      refine AnyE.ready (rs := [8, 11, 14]) (by kernel_rfl) (by simp) ?_
      refine AllE.cons (o := { dst := some 27, op := Go.Op.makeSlice 62 (Go.Operand.tmp 26) (Go.Operand.tmp 26), type := 62, pos := "verify.go:70", after := #[{ on := 7, ground := Go.Ground.data }, { on := 7, ground := Go.Ground.data }], guard := none }) rfl (fun KK hKK => ?_) (AllE.cons (o := { dst := some 30, op := Go.Op.makeSlice 63 (Go.Operand.tmp 29) (Go.Operand.tmp 29), type := 63, pos := "verify.go:70", after := #[{ on := 10, ground := Go.Ground.data }, { on := 10, ground := Go.Ground.data }], guard := none }) rfl (fun KK hKK => ?_) (AllE.cons (o := { dst := some 33, op := Go.Op.makeSlice 63 (Go.Operand.tmp 32) (Go.Operand.tmp 32), type := 63, pos := "verify.go:70", after := #[{ on := 13, ground := Go.Ground.data }, { on := 13, ground := Go.Ground.data }], guard := none }) rfl (fun KK hKK => ?_) AllE.nil))
      · go_simp
        obtain ⟨V2, rs, hV, hbq, hMk, hBel, hsz2⟩ := mk1 n V1
        rw [← hV, ← hbq]
        have Hrs := Lib.hid hMk
        have HBel := Lib.hid hBel
        replace Hro := Lib.hid (Hro.out.below HBel.out)
        replace HB := Lib.hid (And.intro (HB.out.1.below HBel.out) (HB.out.2.trans (HBel.out.mono HB.out.2.size)))
        have hlo2 : rs = V1.heap.size := hbq
        have HLo2 := Lib.hid hlo2
        have hge2 : w.heap.size ≤ rs ∧ rs < V2.heap.size ∧ ro < rs := by omega
        have hws2 : w.heap.size ≤ V2.heap.size := by omega
        clear hV hbq hMk hBel HBel hlo2 HLo2 hsz2
        refine hKK.out _ _ (HHO.out _ HB.out.1) (fun hHeld => ?_)
        clear hKK KK
        try simp only [Act.put, List.setIfInBounds_toArray, List.set_cons_zero, List.set_cons_succ]
        refine AnyE.ready (rs := [11, 14]) (by kernel_rfl) (by simp) ?_
        refine AllE.cons (o := { dst := some 30, op := Go.Op.makeSlice 63 (Go.Operand.tmp 29) (Go.Operand.tmp 29), type := 63, pos := "verify.go:70", after := #[{ on := 10, ground := Go.Ground.data }, { on := 10, ground := Go.Ground.data }], guard := none }) rfl (fun KK hKK => ?_) (AllE.cons (o := { dst := some 33, op := Go.Op.makeSlice 63 (Go.Operand.tmp 32) (Go.Operand.tmp 32), type := 63, pos := "verify.go:70", after := #[{ on := 13, ground := Go.Ground.data }, { on := 13, ground := Go.Ground.data }], guard := none }) rfl (fun KK hKK => ?_) AllE.nil)
        · go_simp
          obtain ⟨V3, rh, hV, hbq, hMk, hBel, hsz3⟩ := mk2 n V2
          rw [← hV, ← hbq]
          have Hrh := Lib.hid hMk
          have HBel := Lib.hid hBel
          replace Hro := Lib.hid (Hro.out.below HBel.out)
          replace Hrs := Lib.hid (Hrs.out.below HBel.out)
          replace HB := Lib.hid (And.intro (HB.out.1.below HBel.out) (HB.out.2.trans (HBel.out.mono HB.out.2.size)))
          have hlo3 : rh = V2.heap.size := hbq
          have HLo3 := Lib.hid hlo3
          have hge3 : w.heap.size ≤ rh ∧ rh < V3.heap.size ∧ ro < rh ∧ rs < rh := by omega
          have hws3 : w.heap.size ≤ V3.heap.size := by omega
          clear hV hbq hMk hBel HBel hlo3 HLo3 hsz3
          refine hKK.out _ _ (HHO.out _ HB.out.1) (fun hHeld => ?_)
          clear hKK KK
          try simp only [Act.put, List.setIfInBounds_toArray, List.set_cons_zero, List.set_cons_succ]
          refine AnyE.ready (rs := [14]) (by kernel_rfl) (by simp) ?_
          refine AllE.cons (o := { dst := some 33, op := Go.Op.makeSlice 63 (Go.Operand.tmp 32) (Go.Operand.tmp 32), type := 63, pos := "verify.go:70", after := #[{ on := 13, ground := Go.Ground.data }, { on := 13, ground := Go.Ground.data }], guard := none }) rfl (fun KK hKK => ?_) AllE.nil
          · go_simp
            obtain ⟨V4, rg, hV, hbq, hMk, hBel, hsz4⟩ := mk2 n V3
            rw [← hV, ← hbq]
            have Hrg := Lib.hid hMk
            have HBel := Lib.hid hBel
            replace Hro := Lib.hid (Hro.out.below HBel.out)
            replace Hrs := Lib.hid (Hrs.out.below HBel.out)
            replace Hrh := Lib.hid (Hrh.out.below HBel.out)
            replace HB := Lib.hid (And.intro (HB.out.1.below HBel.out) (HB.out.2.trans (HBel.out.mono HB.out.2.size)))
            have hlo4 : rg = V3.heap.size := hbq
            have HLo4 := Lib.hid hlo4
            have hge4 : w.heap.size ≤ rg ∧ rg < V4.heap.size ∧ ro < rg ∧ rs < rg ∧ rh < rg := by omega
            have hws4 : w.heap.size ≤ V4.heap.size := by omega
            clear hV hbq hMk hBel HBel hlo4 HLo4 hsz4
            refine hKK.out _ _ (HHO.out _ HB.out.1) (fun hHeld => ?_)
            clear hKK KK
            try simp only [Act.put, List.setIfInBounds_toArray, List.set_cons_zero, List.set_cons_succ]
            refine AnyE.take2 (i := 15) [] (oi := { dst := some 34, op := Go.Op.build 120 #[(0, Go.Operand.tmp 19), (1, Go.Operand.tmp 20), (2, Go.Operand.tmp 21), (3, Go.Operand.tmp 24), (4, Go.Operand.tmp 27), (5, Go.Operand.tmp 30), (6, Go.Operand.tmp 33)], type := 120, pos := "verify.go:70", after := #[{ on := 0, ground := Go.Ground.data }, { on := 1, ground := Go.Ground.data }, { on := 2, ground := Go.Ground.data }, { on := 5, ground := Go.Ground.data }, { on := 8, ground := Go.Ground.data }, { on := 11, ground := Go.Ground.data }, { on := 14, ground := Go.Ground.data }], guard := none }) (v := ?_) rfl (by kernel_rfl) (by kernel_rfl) (by kernel_rfl) (by kernel_rfl) (fun _ _ _ h => h) (Or.inl ⟨by rfl, ?_⟩) (by assumption) ?_
            rotate_left
            · (intro w0 hSw; (try dsimp only at hSw); go_split_ands; go_simp; with_reducible rfl)
            try simp only [Act.put, List.setIfInBounds_toArray, List.set_cons_zero, List.set_cons_succ]
            refine AnyE.ready (rs := [16]) (by kernel_rfl) (by simp) ?_
            refine AllE.cons (o := { dst := some 35, op := Go.Op.box 120 (Go.Operand.tmp 34), type := 112, pos := "verify.go:70", after := #[{ on := 15, ground := Go.Ground.data }], guard := none }) rfl (fun KK hKK => ?_) AllE.nil
            go_simp
            have HQ := Lib.hid (HF0.out V4 ro rs rh rg Hro.out Hrs.out Hrh.out Hrg.out HB.out.2 (by omega) (by omega) (by omega) (by omega) (by omega))
            refine hKK.out _ _ (HHO.out _ (HB.out.1.alloc _)) (fun hHeld => ?_)
            clear hKK KK
            try simp only [Act.put, List.setIfInBounds_toArray, List.set_cons_zero, List.set_cons_succ]
            refine AnyE.ready (rs := [17]) (by kernel_rfl) (by simp) ?_
            refine AllE.last (o := { dst := some 8, op := Go.Op.assign (Go.Operand.tmp 35), type := 112, pos := "verify.go:70", after := #[{ on := 16, ground := Go.Ground.data }, { on := 0, ground := Go.Ground.phase }, { on := 1, ground := Go.Ground.phase }, { on := 2, ground := Go.Ground.phase }, { on := 3, ground := Go.Ground.phase }, { on := 4, ground := Go.Ground.phase }, { on := 5, ground := Go.Ground.phase }, { on := 6, ground := Go.Ground.phase }, { on := 7, ground := Go.Ground.phase }, { on := 8, ground := Go.Ground.phase }, { on := 9, ground := Go.Ground.phase }, { on := 10, ground := Go.Ground.phase }, { on := 11, ground := Go.Ground.phase }, { on := 12, ground := Go.Ground.phase }, { on := 13, ground := Go.Ground.phase }, { on := 14, ground := Go.Ground.phase }, { on := 15, ground := Go.Ground.phase }, { on := 16, ground := Go.Ground.phase }], guard := none }) rfl (by kernel_rfl) (fun KK hKK => ?_)
            go_simp
            refine hKK.out _ _ ?_
            clear hKK KK
            try simp only [Act.put, List.setIfInBounds_toArray, List.set_cons_zero, List.set_cons_succ]
            go_wp2_with fail
            obtain rfl := HN.out
            go_meet
            case rel => exact HQ.out
        · go_simp
          obtain ⟨V3, rg, hV, hbq, hMk, hBel, hsz3⟩ := mk2 n V2
          rw [← hV, ← hbq]
          have Hrg := Lib.hid hMk
          have HBel := Lib.hid hBel
          replace Hro := Lib.hid (Hro.out.below HBel.out)
          replace Hrs := Lib.hid (Hrs.out.below HBel.out)
          replace HB := Lib.hid (And.intro (HB.out.1.below HBel.out) (HB.out.2.trans (HBel.out.mono HB.out.2.size)))
          have hlo3 : rg = V2.heap.size := hbq
          have HLo3 := Lib.hid hlo3
          have hge3 : w.heap.size ≤ rg ∧ rg < V3.heap.size ∧ ro < rg ∧ rs < rg := by omega
          have hws3 : w.heap.size ≤ V3.heap.size := by omega
          clear hV hbq hMk hBel HBel hlo3 HLo3 hsz3
          refine hKK.out _ _ (HHO.out _ HB.out.1) (fun hHeld => ?_)
          clear hKK KK
          try simp only [Act.put, List.setIfInBounds_toArray, List.set_cons_zero, List.set_cons_succ]
          refine AnyE.ready (rs := [11]) (by kernel_rfl) (by simp) ?_
          refine AllE.cons (o := { dst := some 30, op := Go.Op.makeSlice 63 (Go.Operand.tmp 29) (Go.Operand.tmp 29), type := 63, pos := "verify.go:70", after := #[{ on := 10, ground := Go.Ground.data }, { on := 10, ground := Go.Ground.data }], guard := none }) rfl (fun KK hKK => ?_) AllE.nil
          · go_simp
            obtain ⟨V4, rh, hV, hbq, hMk, hBel, hsz4⟩ := mk2 n V3
            rw [← hV, ← hbq]
            have Hrh := Lib.hid hMk
            have HBel := Lib.hid hBel
            replace Hro := Lib.hid (Hro.out.below HBel.out)
            replace Hrs := Lib.hid (Hrs.out.below HBel.out)
            replace Hrg := Lib.hid (Hrg.out.below HBel.out)
            replace HB := Lib.hid (And.intro (HB.out.1.below HBel.out) (HB.out.2.trans (HBel.out.mono HB.out.2.size)))
            have hlo4 : rh = V3.heap.size := hbq
            have HLo4 := Lib.hid hlo4
            have hge4 : w.heap.size ≤ rh ∧ rh < V4.heap.size ∧ ro < rh ∧ rs < rh ∧ rg < rh := by omega
            have hws4 : w.heap.size ≤ V4.heap.size := by omega
            clear hV hbq hMk hBel HBel hlo4 HLo4 hsz4
            refine hKK.out _ _ (HHO.out _ HB.out.1) (fun hHeld => ?_)
            clear hKK KK
            try simp only [Act.put, List.setIfInBounds_toArray, List.set_cons_zero, List.set_cons_succ]
            refine AnyE.take2 (i := 15) [] (oi := { dst := some 34, op := Go.Op.build 120 #[(0, Go.Operand.tmp 19), (1, Go.Operand.tmp 20), (2, Go.Operand.tmp 21), (3, Go.Operand.tmp 24), (4, Go.Operand.tmp 27), (5, Go.Operand.tmp 30), (6, Go.Operand.tmp 33)], type := 120, pos := "verify.go:70", after := #[{ on := 0, ground := Go.Ground.data }, { on := 1, ground := Go.Ground.data }, { on := 2, ground := Go.Ground.data }, { on := 5, ground := Go.Ground.data }, { on := 8, ground := Go.Ground.data }, { on := 11, ground := Go.Ground.data }, { on := 14, ground := Go.Ground.data }], guard := none }) (v := ?_) rfl (by kernel_rfl) (by kernel_rfl) (by kernel_rfl) (by kernel_rfl) (fun _ _ _ h => h) (Or.inl ⟨by rfl, ?_⟩) (by assumption) ?_
            rotate_left
            · (intro w0 hSw; (try dsimp only at hSw); go_split_ands; go_simp; with_reducible rfl)
            try simp only [Act.put, List.setIfInBounds_toArray, List.set_cons_zero, List.set_cons_succ]
            refine AnyE.ready (rs := [16]) (by kernel_rfl) (by simp) ?_
            refine AllE.cons (o := { dst := some 35, op := Go.Op.box 120 (Go.Operand.tmp 34), type := 112, pos := "verify.go:70", after := #[{ on := 15, ground := Go.Ground.data }], guard := none }) rfl (fun KK hKK => ?_) AllE.nil
            go_simp
            have HQ := Lib.hid (HF0.out V4 ro rs rh rg Hro.out Hrs.out Hrh.out Hrg.out HB.out.2 (by omega) (by omega) (by omega) (by omega) (by omega))
            refine hKK.out _ _ (HHO.out _ (HB.out.1.alloc _)) (fun hHeld => ?_)
            clear hKK KK
            try simp only [Act.put, List.setIfInBounds_toArray, List.set_cons_zero, List.set_cons_succ]
            refine AnyE.ready (rs := [17]) (by kernel_rfl) (by simp) ?_
            refine AllE.last (o := { dst := some 8, op := Go.Op.assign (Go.Operand.tmp 35), type := 112, pos := "verify.go:70", after := #[{ on := 16, ground := Go.Ground.data }, { on := 0, ground := Go.Ground.phase }, { on := 1, ground := Go.Ground.phase }, { on := 2, ground := Go.Ground.phase }, { on := 3, ground := Go.Ground.phase }, { on := 4, ground := Go.Ground.phase }, { on := 5, ground := Go.Ground.phase }, { on := 6, ground := Go.Ground.phase }, { on := 7, ground := Go.Ground.phase }, { on := 8, ground := Go.Ground.phase }, { on := 9, ground := Go.Ground.phase }, { on := 10, ground := Go.Ground.phase }, { on := 11, ground := Go.Ground.phase }, { on := 12, ground := Go.Ground.phase }, { on := 13, ground := Go.Ground.phase }, { on := 14, ground := Go.Ground.phase }, { on := 15, ground := Go.Ground.phase }, { on := 16, ground := Go.Ground.phase }], guard := none }) rfl (by kernel_rfl) (fun KK hKK => ?_)
            go_simp
            refine hKK.out _ _ ?_
            clear hKK KK
            try simp only [Act.put, List.setIfInBounds_toArray, List.set_cons_zero, List.set_cons_succ]
            go_wp2_with fail
            obtain rfl := HN.out
            go_meet
            case rel => exact HQ.out
      · go_simp
        obtain ⟨V2, rh, hV, hbq, hMk, hBel, hsz2⟩ := mk2 n V1
        rw [← hV, ← hbq]
        have Hrh := Lib.hid hMk
        have HBel := Lib.hid hBel
        replace Hro := Lib.hid (Hro.out.below HBel.out)
        replace HB := Lib.hid (And.intro (HB.out.1.below HBel.out) (HB.out.2.trans (HBel.out.mono HB.out.2.size)))
        have hlo2 : rh = V1.heap.size := hbq
        have HLo2 := Lib.hid hlo2
        have hge2 : w.heap.size ≤ rh ∧ rh < V2.heap.size ∧ ro < rh := by omega
        have hws2 : w.heap.size ≤ V2.heap.size := by omega
        clear hV hbq hMk hBel HBel hlo2 HLo2 hsz2
        refine hKK.out _ _ (HHO.out _ HB.out.1) (fun hHeld => ?_)
        clear hKK KK
        try simp only [Act.put, List.setIfInBounds_toArray, List.set_cons_zero, List.set_cons_succ]
        refine AnyE.ready (rs := [8, 14]) (by kernel_rfl) (by simp) ?_
        refine AllE.cons (o := { dst := some 27, op := Go.Op.makeSlice 62 (Go.Operand.tmp 26) (Go.Operand.tmp 26), type := 62, pos := "verify.go:70", after := #[{ on := 7, ground := Go.Ground.data }, { on := 7, ground := Go.Ground.data }], guard := none }) rfl (fun KK hKK => ?_) (AllE.cons (o := { dst := some 33, op := Go.Op.makeSlice 63 (Go.Operand.tmp 32) (Go.Operand.tmp 32), type := 63, pos := "verify.go:70", after := #[{ on := 13, ground := Go.Ground.data }, { on := 13, ground := Go.Ground.data }], guard := none }) rfl (fun KK hKK => ?_) AllE.nil)
        · go_simp
          obtain ⟨V3, rs, hV, hbq, hMk, hBel, hsz3⟩ := mk1 n V2
          rw [← hV, ← hbq]
          have Hrs := Lib.hid hMk
          have HBel := Lib.hid hBel
          replace Hro := Lib.hid (Hro.out.below HBel.out)
          replace Hrh := Lib.hid (Hrh.out.below HBel.out)
          replace HB := Lib.hid (And.intro (HB.out.1.below HBel.out) (HB.out.2.trans (HBel.out.mono HB.out.2.size)))
          have hlo3 : rs = V2.heap.size := hbq
          have HLo3 := Lib.hid hlo3
          have hge3 : w.heap.size ≤ rs ∧ rs < V3.heap.size ∧ ro < rs ∧ rh < rs := by omega
          have hws3 : w.heap.size ≤ V3.heap.size := by omega
          clear hV hbq hMk hBel HBel hlo3 HLo3 hsz3
          refine hKK.out _ _ (HHO.out _ HB.out.1) (fun hHeld => ?_)
          clear hKK KK
          try simp only [Act.put, List.setIfInBounds_toArray, List.set_cons_zero, List.set_cons_succ]
          refine AnyE.ready (rs := [14]) (by kernel_rfl) (by simp) ?_
          refine AllE.cons (o := { dst := some 33, op := Go.Op.makeSlice 63 (Go.Operand.tmp 32) (Go.Operand.tmp 32), type := 63, pos := "verify.go:70", after := #[{ on := 13, ground := Go.Ground.data }, { on := 13, ground := Go.Ground.data }], guard := none }) rfl (fun KK hKK => ?_) AllE.nil
          · go_simp
            obtain ⟨V4, rg, hV, hbq, hMk, hBel, hsz4⟩ := mk2 n V3
            rw [← hV, ← hbq]
            have Hrg := Lib.hid hMk
            have HBel := Lib.hid hBel
            replace Hro := Lib.hid (Hro.out.below HBel.out)
            replace Hrh := Lib.hid (Hrh.out.below HBel.out)
            replace Hrs := Lib.hid (Hrs.out.below HBel.out)
            replace HB := Lib.hid (And.intro (HB.out.1.below HBel.out) (HB.out.2.trans (HBel.out.mono HB.out.2.size)))
            have hlo4 : rg = V3.heap.size := hbq
            have HLo4 := Lib.hid hlo4
            have hge4 : w.heap.size ≤ rg ∧ rg < V4.heap.size ∧ ro < rg ∧ rh < rg ∧ rs < rg := by omega
            have hws4 : w.heap.size ≤ V4.heap.size := by omega
            clear hV hbq hMk hBel HBel hlo4 HLo4 hsz4
            refine hKK.out _ _ (HHO.out _ HB.out.1) (fun hHeld => ?_)
            clear hKK KK
            try simp only [Act.put, List.setIfInBounds_toArray, List.set_cons_zero, List.set_cons_succ]
            refine AnyE.take2 (i := 15) [] (oi := { dst := some 34, op := Go.Op.build 120 #[(0, Go.Operand.tmp 19), (1, Go.Operand.tmp 20), (2, Go.Operand.tmp 21), (3, Go.Operand.tmp 24), (4, Go.Operand.tmp 27), (5, Go.Operand.tmp 30), (6, Go.Operand.tmp 33)], type := 120, pos := "verify.go:70", after := #[{ on := 0, ground := Go.Ground.data }, { on := 1, ground := Go.Ground.data }, { on := 2, ground := Go.Ground.data }, { on := 5, ground := Go.Ground.data }, { on := 8, ground := Go.Ground.data }, { on := 11, ground := Go.Ground.data }, { on := 14, ground := Go.Ground.data }], guard := none }) (v := ?_) rfl (by kernel_rfl) (by kernel_rfl) (by kernel_rfl) (by kernel_rfl) (fun _ _ _ h => h) (Or.inl ⟨by rfl, ?_⟩) (by assumption) ?_
            rotate_left
            · (intro w0 hSw; (try dsimp only at hSw); go_split_ands; go_simp; with_reducible rfl)
            try simp only [Act.put, List.setIfInBounds_toArray, List.set_cons_zero, List.set_cons_succ]
            refine AnyE.ready (rs := [16]) (by kernel_rfl) (by simp) ?_
            refine AllE.cons (o := { dst := some 35, op := Go.Op.box 120 (Go.Operand.tmp 34), type := 112, pos := "verify.go:70", after := #[{ on := 15, ground := Go.Ground.data }], guard := none }) rfl (fun KK hKK => ?_) AllE.nil
            go_simp
            have HQ := Lib.hid (HF0.out V4 ro rs rh rg Hro.out Hrs.out Hrh.out Hrg.out HB.out.2 (by omega) (by omega) (by omega) (by omega) (by omega))
            refine hKK.out _ _ (HHO.out _ (HB.out.1.alloc _)) (fun hHeld => ?_)
            clear hKK KK
            try simp only [Act.put, List.setIfInBounds_toArray, List.set_cons_zero, List.set_cons_succ]
            refine AnyE.ready (rs := [17]) (by kernel_rfl) (by simp) ?_
            refine AllE.last (o := { dst := some 8, op := Go.Op.assign (Go.Operand.tmp 35), type := 112, pos := "verify.go:70", after := #[{ on := 16, ground := Go.Ground.data }, { on := 0, ground := Go.Ground.phase }, { on := 1, ground := Go.Ground.phase }, { on := 2, ground := Go.Ground.phase }, { on := 3, ground := Go.Ground.phase }, { on := 4, ground := Go.Ground.phase }, { on := 5, ground := Go.Ground.phase }, { on := 6, ground := Go.Ground.phase }, { on := 7, ground := Go.Ground.phase }, { on := 8, ground := Go.Ground.phase }, { on := 9, ground := Go.Ground.phase }, { on := 10, ground := Go.Ground.phase }, { on := 11, ground := Go.Ground.phase }, { on := 12, ground := Go.Ground.phase }, { on := 13, ground := Go.Ground.phase }, { on := 14, ground := Go.Ground.phase }, { on := 15, ground := Go.Ground.phase }, { on := 16, ground := Go.Ground.phase }], guard := none }) rfl (by kernel_rfl) (fun KK hKK => ?_)
            go_simp
            refine hKK.out _ _ ?_
            clear hKK KK
            try simp only [Act.put, List.setIfInBounds_toArray, List.set_cons_zero, List.set_cons_succ]
            go_wp2_with fail
            obtain rfl := HN.out
            go_meet
            case rel => exact HQ.out
        · go_simp
          obtain ⟨V3, rg, hV, hbq, hMk, hBel, hsz3⟩ := mk2 n V2
          rw [← hV, ← hbq]
          have Hrg := Lib.hid hMk
          have HBel := Lib.hid hBel
          replace Hro := Lib.hid (Hro.out.below HBel.out)
          replace Hrh := Lib.hid (Hrh.out.below HBel.out)
          replace HB := Lib.hid (And.intro (HB.out.1.below HBel.out) (HB.out.2.trans (HBel.out.mono HB.out.2.size)))
          have hlo3 : rg = V2.heap.size := hbq
          have HLo3 := Lib.hid hlo3
          have hge3 : w.heap.size ≤ rg ∧ rg < V3.heap.size ∧ ro < rg ∧ rh < rg := by omega
          have hws3 : w.heap.size ≤ V3.heap.size := by omega
          clear hV hbq hMk hBel HBel hlo3 HLo3 hsz3
          refine hKK.out _ _ (HHO.out _ HB.out.1) (fun hHeld => ?_)
          clear hKK KK
          try simp only [Act.put, List.setIfInBounds_toArray, List.set_cons_zero, List.set_cons_succ]
          refine AnyE.ready (rs := [8]) (by kernel_rfl) (by simp) ?_
          refine AllE.cons (o := { dst := some 27, op := Go.Op.makeSlice 62 (Go.Operand.tmp 26) (Go.Operand.tmp 26), type := 62, pos := "verify.go:70", after := #[{ on := 7, ground := Go.Ground.data }, { on := 7, ground := Go.Ground.data }], guard := none }) rfl (fun KK hKK => ?_) AllE.nil
          · go_simp
            obtain ⟨V4, rs, hV, hbq, hMk, hBel, hsz4⟩ := mk1 n V3
            rw [← hV, ← hbq]
            have Hrs := Lib.hid hMk
            have HBel := Lib.hid hBel
            replace Hro := Lib.hid (Hro.out.below HBel.out)
            replace Hrh := Lib.hid (Hrh.out.below HBel.out)
            replace Hrg := Lib.hid (Hrg.out.below HBel.out)
            replace HB := Lib.hid (And.intro (HB.out.1.below HBel.out) (HB.out.2.trans (HBel.out.mono HB.out.2.size)))
            have hlo4 : rs = V3.heap.size := hbq
            have HLo4 := Lib.hid hlo4
            have hge4 : w.heap.size ≤ rs ∧ rs < V4.heap.size ∧ ro < rs ∧ rh < rs ∧ rg < rs := by omega
            have hws4 : w.heap.size ≤ V4.heap.size := by omega
            clear hV hbq hMk hBel HBel hlo4 HLo4 hsz4
            refine hKK.out _ _ (HHO.out _ HB.out.1) (fun hHeld => ?_)
            clear hKK KK
            try simp only [Act.put, List.setIfInBounds_toArray, List.set_cons_zero, List.set_cons_succ]
            refine AnyE.take2 (i := 15) [] (oi := { dst := some 34, op := Go.Op.build 120 #[(0, Go.Operand.tmp 19), (1, Go.Operand.tmp 20), (2, Go.Operand.tmp 21), (3, Go.Operand.tmp 24), (4, Go.Operand.tmp 27), (5, Go.Operand.tmp 30), (6, Go.Operand.tmp 33)], type := 120, pos := "verify.go:70", after := #[{ on := 0, ground := Go.Ground.data }, { on := 1, ground := Go.Ground.data }, { on := 2, ground := Go.Ground.data }, { on := 5, ground := Go.Ground.data }, { on := 8, ground := Go.Ground.data }, { on := 11, ground := Go.Ground.data }, { on := 14, ground := Go.Ground.data }], guard := none }) (v := ?_) rfl (by kernel_rfl) (by kernel_rfl) (by kernel_rfl) (by kernel_rfl) (fun _ _ _ h => h) (Or.inl ⟨by rfl, ?_⟩) (by assumption) ?_
            rotate_left
            · (intro w0 hSw; (try dsimp only at hSw); go_split_ands; go_simp; with_reducible rfl)
            try simp only [Act.put, List.setIfInBounds_toArray, List.set_cons_zero, List.set_cons_succ]
            refine AnyE.ready (rs := [16]) (by kernel_rfl) (by simp) ?_
            refine AllE.cons (o := { dst := some 35, op := Go.Op.box 120 (Go.Operand.tmp 34), type := 112, pos := "verify.go:70", after := #[{ on := 15, ground := Go.Ground.data }], guard := none }) rfl (fun KK hKK => ?_) AllE.nil
            go_simp
            have HQ := Lib.hid (HF0.out V4 ro rs rh rg Hro.out Hrs.out Hrh.out Hrg.out HB.out.2 (by omega) (by omega) (by omega) (by omega) (by omega))
            refine hKK.out _ _ (HHO.out _ (HB.out.1.alloc _)) (fun hHeld => ?_)
            clear hKK KK
            try simp only [Act.put, List.setIfInBounds_toArray, List.set_cons_zero, List.set_cons_succ]
            refine AnyE.ready (rs := [17]) (by kernel_rfl) (by simp) ?_
            refine AllE.last (o := { dst := some 8, op := Go.Op.assign (Go.Operand.tmp 35), type := 112, pos := "verify.go:70", after := #[{ on := 16, ground := Go.Ground.data }, { on := 0, ground := Go.Ground.phase }, { on := 1, ground := Go.Ground.phase }, { on := 2, ground := Go.Ground.phase }, { on := 3, ground := Go.Ground.phase }, { on := 4, ground := Go.Ground.phase }, { on := 5, ground := Go.Ground.phase }, { on := 6, ground := Go.Ground.phase }, { on := 7, ground := Go.Ground.phase }, { on := 8, ground := Go.Ground.phase }, { on := 9, ground := Go.Ground.phase }, { on := 10, ground := Go.Ground.phase }, { on := 11, ground := Go.Ground.phase }, { on := 12, ground := Go.Ground.phase }, { on := 13, ground := Go.Ground.phase }, { on := 14, ground := Go.Ground.phase }, { on := 15, ground := Go.Ground.phase }, { on := 16, ground := Go.Ground.phase }], guard := none }) rfl (by kernel_rfl) (fun KK hKK => ?_)
            go_simp
            refine hKK.out _ _ ?_
            clear hKK KK
            try simp only [Act.put, List.setIfInBounds_toArray, List.set_cons_zero, List.set_cons_succ]
            go_wp2_with fail
            obtain rfl := HN.out
            go_meet
            case rel => exact HQ.out
      · go_simp
        obtain ⟨V2, rg, hV, hbq, hMk, hBel, hsz2⟩ := mk2 n V1
        rw [← hV, ← hbq]
        have Hrg := Lib.hid hMk
        have HBel := Lib.hid hBel
        replace Hro := Lib.hid (Hro.out.below HBel.out)
        replace HB := Lib.hid (And.intro (HB.out.1.below HBel.out) (HB.out.2.trans (HBel.out.mono HB.out.2.size)))
        have hlo2 : rg = V1.heap.size := hbq
        have HLo2 := Lib.hid hlo2
        have hge2 : w.heap.size ≤ rg ∧ rg < V2.heap.size ∧ ro < rg := by omega
        have hws2 : w.heap.size ≤ V2.heap.size := by omega
        clear hV hbq hMk hBel HBel hlo2 HLo2 hsz2
        refine hKK.out _ _ (HHO.out _ HB.out.1) (fun hHeld => ?_)
        clear hKK KK
        try simp only [Act.put, List.setIfInBounds_toArray, List.set_cons_zero, List.set_cons_succ]
        refine AnyE.ready (rs := [8, 11]) (by kernel_rfl) (by simp) ?_
        refine AllE.cons (o := { dst := some 27, op := Go.Op.makeSlice 62 (Go.Operand.tmp 26) (Go.Operand.tmp 26), type := 62, pos := "verify.go:70", after := #[{ on := 7, ground := Go.Ground.data }, { on := 7, ground := Go.Ground.data }], guard := none }) rfl (fun KK hKK => ?_) (AllE.cons (o := { dst := some 30, op := Go.Op.makeSlice 63 (Go.Operand.tmp 29) (Go.Operand.tmp 29), type := 63, pos := "verify.go:70", after := #[{ on := 10, ground := Go.Ground.data }, { on := 10, ground := Go.Ground.data }], guard := none }) rfl (fun KK hKK => ?_) AllE.nil)
        · go_simp
          obtain ⟨V3, rs, hV, hbq, hMk, hBel, hsz3⟩ := mk1 n V2
          rw [← hV, ← hbq]
          have Hrs := Lib.hid hMk
          have HBel := Lib.hid hBel
          replace Hro := Lib.hid (Hro.out.below HBel.out)
          replace Hrg := Lib.hid (Hrg.out.below HBel.out)
          replace HB := Lib.hid (And.intro (HB.out.1.below HBel.out) (HB.out.2.trans (HBel.out.mono HB.out.2.size)))
          have hlo3 : rs = V2.heap.size := hbq
          have HLo3 := Lib.hid hlo3
          have hge3 : w.heap.size ≤ rs ∧ rs < V3.heap.size ∧ ro < rs ∧ rg < rs := by omega
          have hws3 : w.heap.size ≤ V3.heap.size := by omega
          clear hV hbq hMk hBel HBel hlo3 HLo3 hsz3
          refine hKK.out _ _ (HHO.out _ HB.out.1) (fun hHeld => ?_)
          clear hKK KK
          try simp only [Act.put, List.setIfInBounds_toArray, List.set_cons_zero, List.set_cons_succ]
          refine AnyE.ready (rs := [11]) (by kernel_rfl) (by simp) ?_
          refine AllE.cons (o := { dst := some 30, op := Go.Op.makeSlice 63 (Go.Operand.tmp 29) (Go.Operand.tmp 29), type := 63, pos := "verify.go:70", after := #[{ on := 10, ground := Go.Ground.data }, { on := 10, ground := Go.Ground.data }], guard := none }) rfl (fun KK hKK => ?_) AllE.nil
          · go_simp
            obtain ⟨V4, rh, hV, hbq, hMk, hBel, hsz4⟩ := mk2 n V3
            rw [← hV, ← hbq]
            have Hrh := Lib.hid hMk
            have HBel := Lib.hid hBel
            replace Hro := Lib.hid (Hro.out.below HBel.out)
            replace Hrg := Lib.hid (Hrg.out.below HBel.out)
            replace Hrs := Lib.hid (Hrs.out.below HBel.out)
            replace HB := Lib.hid (And.intro (HB.out.1.below HBel.out) (HB.out.2.trans (HBel.out.mono HB.out.2.size)))
            have hlo4 : rh = V3.heap.size := hbq
            have HLo4 := Lib.hid hlo4
            have hge4 : w.heap.size ≤ rh ∧ rh < V4.heap.size ∧ ro < rh ∧ rg < rh ∧ rs < rh := by omega
            have hws4 : w.heap.size ≤ V4.heap.size := by omega
            clear hV hbq hMk hBel HBel hlo4 HLo4 hsz4
            refine hKK.out _ _ (HHO.out _ HB.out.1) (fun hHeld => ?_)
            clear hKK KK
            try simp only [Act.put, List.setIfInBounds_toArray, List.set_cons_zero, List.set_cons_succ]
            refine AnyE.take2 (i := 15) [] (oi := { dst := some 34, op := Go.Op.build 120 #[(0, Go.Operand.tmp 19), (1, Go.Operand.tmp 20), (2, Go.Operand.tmp 21), (3, Go.Operand.tmp 24), (4, Go.Operand.tmp 27), (5, Go.Operand.tmp 30), (6, Go.Operand.tmp 33)], type := 120, pos := "verify.go:70", after := #[{ on := 0, ground := Go.Ground.data }, { on := 1, ground := Go.Ground.data }, { on := 2, ground := Go.Ground.data }, { on := 5, ground := Go.Ground.data }, { on := 8, ground := Go.Ground.data }, { on := 11, ground := Go.Ground.data }, { on := 14, ground := Go.Ground.data }], guard := none }) (v := ?_) rfl (by kernel_rfl) (by kernel_rfl) (by kernel_rfl) (by kernel_rfl) (fun _ _ _ h => h) (Or.inl ⟨by rfl, ?_⟩) (by assumption) ?_
            rotate_left
            · (intro w0 hSw; (try dsimp only at hSw); go_split_ands; go_simp; with_reducible rfl)
            try simp only [Act.put, List.setIfInBounds_toArray, List.set_cons_zero, List.set_cons_succ]
            refine AnyE.ready (rs := [16]) (by kernel_rfl) (by simp) ?_
            refine AllE.cons (o := { dst := some 35, op := Go.Op.box 120 (Go.Operand.tmp 34), type := 112, pos := "verify.go:70", after := #[{ on := 15, ground := Go.Ground.data }], guard := none }) rfl (fun KK hKK => ?_) AllE.nil
            go_simp
            have HQ := Lib.hid (HF0.out V4 ro rs rh rg Hro.out Hrs.out Hrh.out Hrg.out HB.out.2 (by omega) (by omega) (by omega) (by omega) (by omega))
            refine hKK.out _ _ (HHO.out _ (HB.out.1.alloc _)) (fun hHeld => ?_)
            clear hKK KK
            try simp only [Act.put, List.setIfInBounds_toArray, List.set_cons_zero, List.set_cons_succ]
            refine AnyE.ready (rs := [17]) (by kernel_rfl) (by simp) ?_
            refine AllE.last (o := { dst := some 8, op := Go.Op.assign (Go.Operand.tmp 35), type := 112, pos := "verify.go:70", after := #[{ on := 16, ground := Go.Ground.data }, { on := 0, ground := Go.Ground.phase }, { on := 1, ground := Go.Ground.phase }, { on := 2, ground := Go.Ground.phase }, { on := 3, ground := Go.Ground.phase }, { on := 4, ground := Go.Ground.phase }, { on := 5, ground := Go.Ground.phase }, { on := 6, ground := Go.Ground.phase }, { on := 7, ground := Go.Ground.phase }, { on := 8, ground := Go.Ground.phase }, { on := 9, ground := Go.Ground.phase }, { on := 10, ground := Go.Ground.phase }, { on := 11, ground := Go.Ground.phase }, { on := 12, ground := Go.Ground.phase }, { on := 13, ground := Go.Ground.phase }, { on := 14, ground := Go.Ground.phase }, { on := 15, ground := Go.Ground.phase }, { on := 16, ground := Go.Ground.phase }], guard := none }) rfl (by kernel_rfl) (fun KK hKK => ?_)
            go_simp
            refine hKK.out _ _ ?_
            clear hKK KK
            try simp only [Act.put, List.setIfInBounds_toArray, List.set_cons_zero, List.set_cons_succ]
            go_wp2_with fail
            obtain rfl := HN.out
            go_meet
            case rel => exact HQ.out
        · go_simp
          obtain ⟨V3, rh, hV, hbq, hMk, hBel, hsz3⟩ := mk2 n V2
          rw [← hV, ← hbq]
          have Hrh := Lib.hid hMk
          have HBel := Lib.hid hBel
          replace Hro := Lib.hid (Hro.out.below HBel.out)
          replace Hrg := Lib.hid (Hrg.out.below HBel.out)
          replace HB := Lib.hid (And.intro (HB.out.1.below HBel.out) (HB.out.2.trans (HBel.out.mono HB.out.2.size)))
          have hlo3 : rh = V2.heap.size := hbq
          have HLo3 := Lib.hid hlo3
          have hge3 : w.heap.size ≤ rh ∧ rh < V3.heap.size ∧ ro < rh ∧ rg < rh := by omega
          have hws3 : w.heap.size ≤ V3.heap.size := by omega
          clear hV hbq hMk hBel HBel hlo3 HLo3 hsz3
          refine hKK.out _ _ (HHO.out _ HB.out.1) (fun hHeld => ?_)
          clear hKK KK
          try simp only [Act.put, List.setIfInBounds_toArray, List.set_cons_zero, List.set_cons_succ]
          refine AnyE.ready (rs := [8]) (by kernel_rfl) (by simp) ?_
          refine AllE.cons (o := { dst := some 27, op := Go.Op.makeSlice 62 (Go.Operand.tmp 26) (Go.Operand.tmp 26), type := 62, pos := "verify.go:70", after := #[{ on := 7, ground := Go.Ground.data }, { on := 7, ground := Go.Ground.data }], guard := none }) rfl (fun KK hKK => ?_) AllE.nil
          · go_simp
            obtain ⟨V4, rs, hV, hbq, hMk, hBel, hsz4⟩ := mk1 n V3
            rw [← hV, ← hbq]
            have Hrs := Lib.hid hMk
            have HBel := Lib.hid hBel
            replace Hro := Lib.hid (Hro.out.below HBel.out)
            replace Hrg := Lib.hid (Hrg.out.below HBel.out)
            replace Hrh := Lib.hid (Hrh.out.below HBel.out)
            replace HB := Lib.hid (And.intro (HB.out.1.below HBel.out) (HB.out.2.trans (HBel.out.mono HB.out.2.size)))
            have hlo4 : rs = V3.heap.size := hbq
            have HLo4 := Lib.hid hlo4
            have hge4 : w.heap.size ≤ rs ∧ rs < V4.heap.size ∧ ro < rs ∧ rg < rs ∧ rh < rs := by omega
            have hws4 : w.heap.size ≤ V4.heap.size := by omega
            clear hV hbq hMk hBel HBel hlo4 HLo4 hsz4
            refine hKK.out _ _ (HHO.out _ HB.out.1) (fun hHeld => ?_)
            clear hKK KK
            try simp only [Act.put, List.setIfInBounds_toArray, List.set_cons_zero, List.set_cons_succ]
            refine AnyE.take2 (i := 15) [] (oi := { dst := some 34, op := Go.Op.build 120 #[(0, Go.Operand.tmp 19), (1, Go.Operand.tmp 20), (2, Go.Operand.tmp 21), (3, Go.Operand.tmp 24), (4, Go.Operand.tmp 27), (5, Go.Operand.tmp 30), (6, Go.Operand.tmp 33)], type := 120, pos := "verify.go:70", after := #[{ on := 0, ground := Go.Ground.data }, { on := 1, ground := Go.Ground.data }, { on := 2, ground := Go.Ground.data }, { on := 5, ground := Go.Ground.data }, { on := 8, ground := Go.Ground.data }, { on := 11, ground := Go.Ground.data }, { on := 14, ground := Go.Ground.data }], guard := none }) (v := ?_) rfl (by kernel_rfl) (by kernel_rfl) (by kernel_rfl) (by kernel_rfl) (fun _ _ _ h => h) (Or.inl ⟨by rfl, ?_⟩) (by assumption) ?_
            rotate_left
            · (intro w0 hSw; (try dsimp only at hSw); go_split_ands; go_simp; with_reducible rfl)
            try simp only [Act.put, List.setIfInBounds_toArray, List.set_cons_zero, List.set_cons_succ]
            refine AnyE.ready (rs := [16]) (by kernel_rfl) (by simp) ?_
            refine AllE.cons (o := { dst := some 35, op := Go.Op.box 120 (Go.Operand.tmp 34), type := 112, pos := "verify.go:70", after := #[{ on := 15, ground := Go.Ground.data }], guard := none }) rfl (fun KK hKK => ?_) AllE.nil
            go_simp
            have HQ := Lib.hid (HF0.out V4 ro rs rh rg Hro.out Hrs.out Hrh.out Hrg.out HB.out.2 (by omega) (by omega) (by omega) (by omega) (by omega))
            refine hKK.out _ _ (HHO.out _ (HB.out.1.alloc _)) (fun hHeld => ?_)
            clear hKK KK
            try simp only [Act.put, List.setIfInBounds_toArray, List.set_cons_zero, List.set_cons_succ]
            refine AnyE.ready (rs := [17]) (by kernel_rfl) (by simp) ?_
            refine AllE.last (o := { dst := some 8, op := Go.Op.assign (Go.Operand.tmp 35), type := 112, pos := "verify.go:70", after := #[{ on := 16, ground := Go.Ground.data }, { on := 0, ground := Go.Ground.phase }, { on := 1, ground := Go.Ground.phase }, { on := 2, ground := Go.Ground.phase }, { on := 3, ground := Go.Ground.phase }, { on := 4, ground := Go.Ground.phase }, { on := 5, ground := Go.Ground.phase }, { on := 6, ground := Go.Ground.phase }, { on := 7, ground := Go.Ground.phase }, { on := 8, ground := Go.Ground.phase }, { on := 9, ground := Go.Ground.phase }, { on := 10, ground := Go.Ground.phase }, { on := 11, ground := Go.Ground.phase }, { on := 12, ground := Go.Ground.phase }, { on := 13, ground := Go.Ground.phase }, { on := 14, ground := Go.Ground.phase }, { on := 15, ground := Go.Ground.phase }, { on := 16, ground := Go.Ground.phase }], guard := none }) rfl (by kernel_rfl) (fun KK hKK => ?_)
            go_simp
            refine hKK.out _ _ ?_
            clear hKK KK
            try simp only [Act.put, List.setIfInBounds_toArray, List.set_cons_zero, List.set_cons_succ]
            go_wp2_with fail
            obtain rfl := HN.out
            go_meet
            case rel => exact HQ.out
    · go_simp
      obtain ⟨V1, rs, hV, hbq, hMk, hBel, hsz1⟩ := mk1 n V0
      rw [← hV, ← hbq]
      have Hrs := Lib.hid hMk
      have HBel := Lib.hid hBel
      replace HB := Lib.hid (And.intro (HB.out.1.below HBel.out) (HB.out.2.trans (HBel.out.mono HB.out.2.size)))
      have hlo1 : rs = V0.heap.size := hbq
      have HLo1 := Lib.hid hlo1
      have hge1 : w.heap.size ≤ rs ∧ rs < V1.heap.size := by omega
      have hws1 : w.heap.size ≤ V1.heap.size := by omega
      clear hV hbq hMk hBel HBel hlo1 HLo1 hsz1
      refine hKK.out _ _ (HHO.out _ HB.out.1) (fun hHeld => ?_)
      clear hKK KK
      try simp only [Act.put, List.setIfInBounds_toArray, List.set_cons_zero, List.set_cons_succ]
      refine AnyE.ready (rs := [5, 11, 14]) (by kernel_rfl) (by simp) ?_
      refine AllE.cons (o := { dst := some 24, op := Go.Op.makeSlice 118 (Go.Operand.tmp 23) (Go.Operand.tmp 23), type := 118, pos := "verify.go:70", after := #[{ on := 4, ground := Go.Ground.data }, { on := 4, ground := Go.Ground.data }], guard := none }) rfl (fun KK hKK => ?_) (AllE.cons (o := { dst := some 30, op := Go.Op.makeSlice 63 (Go.Operand.tmp 29) (Go.Operand.tmp 29), type := 63, pos := "verify.go:70", after := #[{ on := 10, ground := Go.Ground.data }, { on := 10, ground := Go.Ground.data }], guard := none }) rfl (fun KK hKK => ?_) (AllE.cons (o := { dst := some 33, op := Go.Op.makeSlice 63 (Go.Operand.tmp 32) (Go.Operand.tmp 32), type := 63, pos := "verify.go:70", after := #[{ on := 13, ground := Go.Ground.data }, { on := 13, ground := Go.Ground.data }], guard := none }) rfl (fun KK hKK => ?_) AllE.nil))
      · go_simp
        obtain ⟨V2, ro, hV, hbq, hMk, hBel, hsz2⟩ := mk0 n V1
        rw [← hV, ← hbq]
        have Hro := Lib.hid hMk
        have HBel := Lib.hid hBel
        replace Hrs := Lib.hid (Hrs.out.below HBel.out)
        replace HB := Lib.hid (And.intro (HB.out.1.below HBel.out) (HB.out.2.trans (HBel.out.mono HB.out.2.size)))
        have hlo2 : ro = V1.heap.size := hbq
        have HLo2 := Lib.hid hlo2
        have hge2 : w.heap.size ≤ ro ∧ ro < V2.heap.size ∧ rs < ro := by omega
        have hws2 : w.heap.size ≤ V2.heap.size := by omega
        clear hV hbq hMk hBel HBel hlo2 HLo2 hsz2
        refine hKK.out _ _ (HHO.out _ HB.out.1) (fun hHeld => ?_)
        clear hKK KK
        try simp only [Act.put, List.setIfInBounds_toArray, List.set_cons_zero, List.set_cons_succ]
        refine AnyE.ready (rs := [11, 14]) (by kernel_rfl) (by simp) ?_
        refine AllE.cons (o := { dst := some 30, op := Go.Op.makeSlice 63 (Go.Operand.tmp 29) (Go.Operand.tmp 29), type := 63, pos := "verify.go:70", after := #[{ on := 10, ground := Go.Ground.data }, { on := 10, ground := Go.Ground.data }], guard := none }) rfl (fun KK hKK => ?_) (AllE.cons (o := { dst := some 33, op := Go.Op.makeSlice 63 (Go.Operand.tmp 32) (Go.Operand.tmp 32), type := 63, pos := "verify.go:70", after := #[{ on := 13, ground := Go.Ground.data }, { on := 13, ground := Go.Ground.data }], guard := none }) rfl (fun KK hKK => ?_) AllE.nil)
        · go_simp
          obtain ⟨V3, rh, hV, hbq, hMk, hBel, hsz3⟩ := mk2 n V2
          rw [← hV, ← hbq]
          have Hrh := Lib.hid hMk
          have HBel := Lib.hid hBel
          replace Hrs := Lib.hid (Hrs.out.below HBel.out)
          replace Hro := Lib.hid (Hro.out.below HBel.out)
          replace HB := Lib.hid (And.intro (HB.out.1.below HBel.out) (HB.out.2.trans (HBel.out.mono HB.out.2.size)))
          have hlo3 : rh = V2.heap.size := hbq
          have HLo3 := Lib.hid hlo3
          have hge3 : w.heap.size ≤ rh ∧ rh < V3.heap.size ∧ rs < rh ∧ ro < rh := by omega
          have hws3 : w.heap.size ≤ V3.heap.size := by omega
          clear hV hbq hMk hBel HBel hlo3 HLo3 hsz3
          refine hKK.out _ _ (HHO.out _ HB.out.1) (fun hHeld => ?_)
          clear hKK KK
          try simp only [Act.put, List.setIfInBounds_toArray, List.set_cons_zero, List.set_cons_succ]
          refine AnyE.ready (rs := [14]) (by kernel_rfl) (by simp) ?_
          refine AllE.cons (o := { dst := some 33, op := Go.Op.makeSlice 63 (Go.Operand.tmp 32) (Go.Operand.tmp 32), type := 63, pos := "verify.go:70", after := #[{ on := 13, ground := Go.Ground.data }, { on := 13, ground := Go.Ground.data }], guard := none }) rfl (fun KK hKK => ?_) AllE.nil
          · go_simp
            obtain ⟨V4, rg, hV, hbq, hMk, hBel, hsz4⟩ := mk2 n V3
            rw [← hV, ← hbq]
            have Hrg := Lib.hid hMk
            have HBel := Lib.hid hBel
            replace Hrs := Lib.hid (Hrs.out.below HBel.out)
            replace Hro := Lib.hid (Hro.out.below HBel.out)
            replace Hrh := Lib.hid (Hrh.out.below HBel.out)
            replace HB := Lib.hid (And.intro (HB.out.1.below HBel.out) (HB.out.2.trans (HBel.out.mono HB.out.2.size)))
            have hlo4 : rg = V3.heap.size := hbq
            have HLo4 := Lib.hid hlo4
            have hge4 : w.heap.size ≤ rg ∧ rg < V4.heap.size ∧ rs < rg ∧ ro < rg ∧ rh < rg := by omega
            have hws4 : w.heap.size ≤ V4.heap.size := by omega
            clear hV hbq hMk hBel HBel hlo4 HLo4 hsz4
            refine hKK.out _ _ (HHO.out _ HB.out.1) (fun hHeld => ?_)
            clear hKK KK
            try simp only [Act.put, List.setIfInBounds_toArray, List.set_cons_zero, List.set_cons_succ]
            refine AnyE.take2 (i := 15) [] (oi := { dst := some 34, op := Go.Op.build 120 #[(0, Go.Operand.tmp 19), (1, Go.Operand.tmp 20), (2, Go.Operand.tmp 21), (3, Go.Operand.tmp 24), (4, Go.Operand.tmp 27), (5, Go.Operand.tmp 30), (6, Go.Operand.tmp 33)], type := 120, pos := "verify.go:70", after := #[{ on := 0, ground := Go.Ground.data }, { on := 1, ground := Go.Ground.data }, { on := 2, ground := Go.Ground.data }, { on := 5, ground := Go.Ground.data }, { on := 8, ground := Go.Ground.data }, { on := 11, ground := Go.Ground.data }, { on := 14, ground := Go.Ground.data }], guard := none }) (v := ?_) rfl (by kernel_rfl) (by kernel_rfl) (by kernel_rfl) (by kernel_rfl) (fun _ _ _ h => h) (Or.inl ⟨by rfl, ?_⟩) (by assumption) ?_
            rotate_left
            · (intro w0 hSw; (try dsimp only at hSw); go_split_ands; go_simp; with_reducible rfl)
            try simp only [Act.put, List.setIfInBounds_toArray, List.set_cons_zero, List.set_cons_succ]
            refine AnyE.ready (rs := [16]) (by kernel_rfl) (by simp) ?_
            refine AllE.cons (o := { dst := some 35, op := Go.Op.box 120 (Go.Operand.tmp 34), type := 112, pos := "verify.go:70", after := #[{ on := 15, ground := Go.Ground.data }], guard := none }) rfl (fun KK hKK => ?_) AllE.nil
            go_simp
            have HQ := Lib.hid (HF0.out V4 ro rs rh rg Hro.out Hrs.out Hrh.out Hrg.out HB.out.2 (by omega) (by omega) (by omega) (by omega) (by omega))
            refine hKK.out _ _ (HHO.out _ (HB.out.1.alloc _)) (fun hHeld => ?_)
            clear hKK KK
            try simp only [Act.put, List.setIfInBounds_toArray, List.set_cons_zero, List.set_cons_succ]
            refine AnyE.ready (rs := [17]) (by kernel_rfl) (by simp) ?_
            refine AllE.last (o := { dst := some 8, op := Go.Op.assign (Go.Operand.tmp 35), type := 112, pos := "verify.go:70", after := #[{ on := 16, ground := Go.Ground.data }, { on := 0, ground := Go.Ground.phase }, { on := 1, ground := Go.Ground.phase }, { on := 2, ground := Go.Ground.phase }, { on := 3, ground := Go.Ground.phase }, { on := 4, ground := Go.Ground.phase }, { on := 5, ground := Go.Ground.phase }, { on := 6, ground := Go.Ground.phase }, { on := 7, ground := Go.Ground.phase }, { on := 8, ground := Go.Ground.phase }, { on := 9, ground := Go.Ground.phase }, { on := 10, ground := Go.Ground.phase }, { on := 11, ground := Go.Ground.phase }, { on := 12, ground := Go.Ground.phase }, { on := 13, ground := Go.Ground.phase }, { on := 14, ground := Go.Ground.phase }, { on := 15, ground := Go.Ground.phase }, { on := 16, ground := Go.Ground.phase }], guard := none }) rfl (by kernel_rfl) (fun KK hKK => ?_)
            go_simp
            refine hKK.out _ _ ?_
            clear hKK KK
            try simp only [Act.put, List.setIfInBounds_toArray, List.set_cons_zero, List.set_cons_succ]
            go_wp2_with fail
            obtain rfl := HN.out
            go_meet
            case rel => exact HQ.out
        · go_simp
          obtain ⟨V3, rg, hV, hbq, hMk, hBel, hsz3⟩ := mk2 n V2
          rw [← hV, ← hbq]
          have Hrg := Lib.hid hMk
          have HBel := Lib.hid hBel
          replace Hrs := Lib.hid (Hrs.out.below HBel.out)
          replace Hro := Lib.hid (Hro.out.below HBel.out)
          replace HB := Lib.hid (And.intro (HB.out.1.below HBel.out) (HB.out.2.trans (HBel.out.mono HB.out.2.size)))
          have hlo3 : rg = V2.heap.size := hbq
          have HLo3 := Lib.hid hlo3
          have hge3 : w.heap.size ≤ rg ∧ rg < V3.heap.size ∧ rs < rg ∧ ro < rg := by omega
          have hws3 : w.heap.size ≤ V3.heap.size := by omega
          clear hV hbq hMk hBel HBel hlo3 HLo3 hsz3
          refine hKK.out _ _ (HHO.out _ HB.out.1) (fun hHeld => ?_)
          clear hKK KK
          try simp only [Act.put, List.setIfInBounds_toArray, List.set_cons_zero, List.set_cons_succ]
          refine AnyE.ready (rs := [11]) (by kernel_rfl) (by simp) ?_
          refine AllE.cons (o := { dst := some 30, op := Go.Op.makeSlice 63 (Go.Operand.tmp 29) (Go.Operand.tmp 29), type := 63, pos := "verify.go:70", after := #[{ on := 10, ground := Go.Ground.data }, { on := 10, ground := Go.Ground.data }], guard := none }) rfl (fun KK hKK => ?_) AllE.nil
          · go_simp
            obtain ⟨V4, rh, hV, hbq, hMk, hBel, hsz4⟩ := mk2 n V3
            rw [← hV, ← hbq]
            have Hrh := Lib.hid hMk
            have HBel := Lib.hid hBel
            replace Hrs := Lib.hid (Hrs.out.below HBel.out)
            replace Hro := Lib.hid (Hro.out.below HBel.out)
            replace Hrg := Lib.hid (Hrg.out.below HBel.out)
            replace HB := Lib.hid (And.intro (HB.out.1.below HBel.out) (HB.out.2.trans (HBel.out.mono HB.out.2.size)))
            have hlo4 : rh = V3.heap.size := hbq
            have HLo4 := Lib.hid hlo4
            have hge4 : w.heap.size ≤ rh ∧ rh < V4.heap.size ∧ rs < rh ∧ ro < rh ∧ rg < rh := by omega
            have hws4 : w.heap.size ≤ V4.heap.size := by omega
            clear hV hbq hMk hBel HBel hlo4 HLo4 hsz4
            refine hKK.out _ _ (HHO.out _ HB.out.1) (fun hHeld => ?_)
            clear hKK KK
            try simp only [Act.put, List.setIfInBounds_toArray, List.set_cons_zero, List.set_cons_succ]
            refine AnyE.take2 (i := 15) [] (oi := { dst := some 34, op := Go.Op.build 120 #[(0, Go.Operand.tmp 19), (1, Go.Operand.tmp 20), (2, Go.Operand.tmp 21), (3, Go.Operand.tmp 24), (4, Go.Operand.tmp 27), (5, Go.Operand.tmp 30), (6, Go.Operand.tmp 33)], type := 120, pos := "verify.go:70", after := #[{ on := 0, ground := Go.Ground.data }, { on := 1, ground := Go.Ground.data }, { on := 2, ground := Go.Ground.data }, { on := 5, ground := Go.Ground.data }, { on := 8, ground := Go.Ground.data }, { on := 11, ground := Go.Ground.data }, { on := 14, ground := Go.Ground.data }], guard := none }) (v := ?_) rfl (by kernel_rfl) (by kernel_rfl) (by kernel_rfl) (by kernel_rfl) (fun _ _ _ h => h) (Or.inl ⟨by rfl, ?_⟩) (by assumption) ?_
            rotate_left
            · (intro w0 hSw; (try dsimp only at hSw); go_split_ands; go_simp; with_reducible rfl)
            try simp only [Act.put, List.setIfInBounds_toArray, List.set_cons_zero, List.set_cons_succ]
            refine AnyE.ready (rs := [16]) (by kernel_rfl) (by simp) ?_
            refine AllE.cons (o := { dst := some 35, op := Go.Op.box 120 (Go.Operand.tmp 34), type := 112, pos := "verify.go:70", after := #[{ on := 15, ground := Go.Ground.data }], guard := none }) rfl (fun KK hKK => ?_) AllE.nil
            go_simp
            have HQ := Lib.hid (HF0.out V4 ro rs rh rg Hro.out Hrs.out Hrh.out Hrg.out HB.out.2 (by omega) (by omega) (by omega) (by omega) (by omega))
            refine hKK.out _ _ (HHO.out _ (HB.out.1.alloc _)) (fun hHeld => ?_)
            clear hKK KK
            try simp only [Act.put, List.setIfInBounds_toArray, List.set_cons_zero, List.set_cons_succ]
            refine AnyE.ready (rs := [17]) (by kernel_rfl) (by simp) ?_
            refine AllE.last (o := { dst := some 8, op := Go.Op.assign (Go.Operand.tmp 35), type := 112, pos := "verify.go:70", after := #[{ on := 16, ground := Go.Ground.data }, { on := 0, ground := Go.Ground.phase }, { on := 1, ground := Go.Ground.phase }, { on := 2, ground := Go.Ground.phase }, { on := 3, ground := Go.Ground.phase }, { on := 4, ground := Go.Ground.phase }, { on := 5, ground := Go.Ground.phase }, { on := 6, ground := Go.Ground.phase }, { on := 7, ground := Go.Ground.phase }, { on := 8, ground := Go.Ground.phase }, { on := 9, ground := Go.Ground.phase }, { on := 10, ground := Go.Ground.phase }, { on := 11, ground := Go.Ground.phase }, { on := 12, ground := Go.Ground.phase }, { on := 13, ground := Go.Ground.phase }, { on := 14, ground := Go.Ground.phase }, { on := 15, ground := Go.Ground.phase }, { on := 16, ground := Go.Ground.phase }], guard := none }) rfl (by kernel_rfl) (fun KK hKK => ?_)
            go_simp
            refine hKK.out _ _ ?_
            clear hKK KK
            try simp only [Act.put, List.setIfInBounds_toArray, List.set_cons_zero, List.set_cons_succ]
            go_wp2_with fail
            obtain rfl := HN.out
            go_meet
            case rel => exact HQ.out
      · go_simp
        obtain ⟨V2, rh, hV, hbq, hMk, hBel, hsz2⟩ := mk2 n V1
        rw [← hV, ← hbq]
        have Hrh := Lib.hid hMk
        have HBel := Lib.hid hBel
        replace Hrs := Lib.hid (Hrs.out.below HBel.out)
        replace HB := Lib.hid (And.intro (HB.out.1.below HBel.out) (HB.out.2.trans (HBel.out.mono HB.out.2.size)))
        have hlo2 : rh = V1.heap.size := hbq
        have HLo2 := Lib.hid hlo2
        have hge2 : w.heap.size ≤ rh ∧ rh < V2.heap.size ∧ rs < rh := by omega
        have hws2 : w.heap.size ≤ V2.heap.size := by omega
        clear hV hbq hMk hBel HBel hlo2 HLo2 hsz2
        refine hKK.out _ _ (HHO.out _ HB.out.1) (fun hHeld => ?_)
        clear hKK KK
        try simp only [Act.put, List.setIfInBounds_toArray, List.set_cons_zero, List.set_cons_succ]
        refine AnyE.ready (rs := [5, 14]) (by kernel_rfl) (by simp) ?_
        refine AllE.cons (o := { dst := some 24, op := Go.Op.makeSlice 118 (Go.Operand.tmp 23) (Go.Operand.tmp 23), type := 118, pos := "verify.go:70", after := #[{ on := 4, ground := Go.Ground.data }, { on := 4, ground := Go.Ground.data }], guard := none }) rfl (fun KK hKK => ?_) (AllE.cons (o := { dst := some 33, op := Go.Op.makeSlice 63 (Go.Operand.tmp 32) (Go.Operand.tmp 32), type := 63, pos := "verify.go:70", after := #[{ on := 13, ground := Go.Ground.data }, { on := 13, ground := Go.Ground.data }], guard := none }) rfl (fun KK hKK => ?_) AllE.nil)
        · go_simp
          obtain ⟨V3, ro, hV, hbq, hMk, hBel, hsz3⟩ := mk0 n V2
          rw [← hV, ← hbq]
          have Hro := Lib.hid hMk
          have HBel := Lib.hid hBel
          replace Hrs := Lib.hid (Hrs.out.below HBel.out)
          replace Hrh := Lib.hid (Hrh.out.below HBel.out)
          replace HB := Lib.hid (And.intro (HB.out.1.below HBel.out) (HB.out.2.trans (HBel.out.mono HB.out.2.size)))
          have hlo3 : ro = V2.heap.size := hbq
          have HLo3 := Lib.hid hlo3
          have hge3 : w.heap.size ≤ ro ∧ ro < V3.heap.size ∧ rs < ro ∧ rh < ro := by omega
          have hws3 : w.heap.size ≤ V3.heap.size := by omega
          clear hV hbq hMk hBel HBel hlo3 HLo3 hsz3
          refine hKK.out _ _ (HHO.out _ HB.out.1) (fun hHeld => ?_)
          clear hKK KK
          try simp only [Act.put, List.setIfInBounds_toArray, List.set_cons_zero, List.set_cons_succ]
          refine AnyE.ready (rs := [14]) (by kernel_rfl) (by simp) ?_
          refine AllE.cons (o := { dst := some 33, op := Go.Op.makeSlice 63 (Go.Operand.tmp 32) (Go.Operand.tmp 32), type := 63, pos := "verify.go:70", after := #[{ on := 13, ground := Go.Ground.data }, { on := 13, ground := Go.Ground.data }], guard := none }) rfl (fun KK hKK => ?_) AllE.nil
          · go_simp
            obtain ⟨V4, rg, hV, hbq, hMk, hBel, hsz4⟩ := mk2 n V3
            rw [← hV, ← hbq]
            have Hrg := Lib.hid hMk
            have HBel := Lib.hid hBel
            replace Hrs := Lib.hid (Hrs.out.below HBel.out)
            replace Hrh := Lib.hid (Hrh.out.below HBel.out)
            replace Hro := Lib.hid (Hro.out.below HBel.out)
            replace HB := Lib.hid (And.intro (HB.out.1.below HBel.out) (HB.out.2.trans (HBel.out.mono HB.out.2.size)))
            have hlo4 : rg = V3.heap.size := hbq
            have HLo4 := Lib.hid hlo4
            have hge4 : w.heap.size ≤ rg ∧ rg < V4.heap.size ∧ rs < rg ∧ rh < rg ∧ ro < rg := by omega
            have hws4 : w.heap.size ≤ V4.heap.size := by omega
            clear hV hbq hMk hBel HBel hlo4 HLo4 hsz4
            refine hKK.out _ _ (HHO.out _ HB.out.1) (fun hHeld => ?_)
            clear hKK KK
            try simp only [Act.put, List.setIfInBounds_toArray, List.set_cons_zero, List.set_cons_succ]
            refine AnyE.take2 (i := 15) [] (oi := { dst := some 34, op := Go.Op.build 120 #[(0, Go.Operand.tmp 19), (1, Go.Operand.tmp 20), (2, Go.Operand.tmp 21), (3, Go.Operand.tmp 24), (4, Go.Operand.tmp 27), (5, Go.Operand.tmp 30), (6, Go.Operand.tmp 33)], type := 120, pos := "verify.go:70", after := #[{ on := 0, ground := Go.Ground.data }, { on := 1, ground := Go.Ground.data }, { on := 2, ground := Go.Ground.data }, { on := 5, ground := Go.Ground.data }, { on := 8, ground := Go.Ground.data }, { on := 11, ground := Go.Ground.data }, { on := 14, ground := Go.Ground.data }], guard := none }) (v := ?_) rfl (by kernel_rfl) (by kernel_rfl) (by kernel_rfl) (by kernel_rfl) (fun _ _ _ h => h) (Or.inl ⟨by rfl, ?_⟩) (by assumption) ?_
            rotate_left
            · (intro w0 hSw; (try dsimp only at hSw); go_split_ands; go_simp; with_reducible rfl)
            try simp only [Act.put, List.setIfInBounds_toArray, List.set_cons_zero, List.set_cons_succ]
            refine AnyE.ready (rs := [16]) (by kernel_rfl) (by simp) ?_
            refine AllE.cons (o := { dst := some 35, op := Go.Op.box 120 (Go.Operand.tmp 34), type := 112, pos := "verify.go:70", after := #[{ on := 15, ground := Go.Ground.data }], guard := none }) rfl (fun KK hKK => ?_) AllE.nil
            go_simp
            have HQ := Lib.hid (HF0.out V4 ro rs rh rg Hro.out Hrs.out Hrh.out Hrg.out HB.out.2 (by omega) (by omega) (by omega) (by omega) (by omega))
            refine hKK.out _ _ (HHO.out _ (HB.out.1.alloc _)) (fun hHeld => ?_)
            clear hKK KK
            try simp only [Act.put, List.setIfInBounds_toArray, List.set_cons_zero, List.set_cons_succ]
            refine AnyE.ready (rs := [17]) (by kernel_rfl) (by simp) ?_
            refine AllE.last (o := { dst := some 8, op := Go.Op.assign (Go.Operand.tmp 35), type := 112, pos := "verify.go:70", after := #[{ on := 16, ground := Go.Ground.data }, { on := 0, ground := Go.Ground.phase }, { on := 1, ground := Go.Ground.phase }, { on := 2, ground := Go.Ground.phase }, { on := 3, ground := Go.Ground.phase }, { on := 4, ground := Go.Ground.phase }, { on := 5, ground := Go.Ground.phase }, { on := 6, ground := Go.Ground.phase }, { on := 7, ground := Go.Ground.phase }, { on := 8, ground := Go.Ground.phase }, { on := 9, ground := Go.Ground.phase }, { on := 10, ground := Go.Ground.phase }, { on := 11, ground := Go.Ground.phase }, { on := 12, ground := Go.Ground.phase }, { on := 13, ground := Go.Ground.phase }, { on := 14, ground := Go.Ground.phase }, { on := 15, ground := Go.Ground.phase }, { on := 16, ground := Go.Ground.phase }], guard := none }) rfl (by kernel_rfl) (fun KK hKK => ?_)
            go_simp
            refine hKK.out _ _ ?_
            clear hKK KK
            try simp only [Act.put, List.setIfInBounds_toArray, List.set_cons_zero, List.set_cons_succ]
            go_wp2_with fail
            obtain rfl := HN.out
            go_meet
            case rel => exact HQ.out
        · go_simp
          obtain ⟨V3, rg, hV, hbq, hMk, hBel, hsz3⟩ := mk2 n V2
          rw [← hV, ← hbq]
          have Hrg := Lib.hid hMk
          have HBel := Lib.hid hBel
          replace Hrs := Lib.hid (Hrs.out.below HBel.out)
          replace Hrh := Lib.hid (Hrh.out.below HBel.out)
          replace HB := Lib.hid (And.intro (HB.out.1.below HBel.out) (HB.out.2.trans (HBel.out.mono HB.out.2.size)))
          have hlo3 : rg = V2.heap.size := hbq
          have HLo3 := Lib.hid hlo3
          have hge3 : w.heap.size ≤ rg ∧ rg < V3.heap.size ∧ rs < rg ∧ rh < rg := by omega
          have hws3 : w.heap.size ≤ V3.heap.size := by omega
          clear hV hbq hMk hBel HBel hlo3 HLo3 hsz3
          refine hKK.out _ _ (HHO.out _ HB.out.1) (fun hHeld => ?_)
          clear hKK KK
          try simp only [Act.put, List.setIfInBounds_toArray, List.set_cons_zero, List.set_cons_succ]
          refine AnyE.ready (rs := [5]) (by kernel_rfl) (by simp) ?_
          refine AllE.cons (o := { dst := some 24, op := Go.Op.makeSlice 118 (Go.Operand.tmp 23) (Go.Operand.tmp 23), type := 118, pos := "verify.go:70", after := #[{ on := 4, ground := Go.Ground.data }, { on := 4, ground := Go.Ground.data }], guard := none }) rfl (fun KK hKK => ?_) AllE.nil
          · go_simp
            obtain ⟨V4, ro, hV, hbq, hMk, hBel, hsz4⟩ := mk0 n V3
            rw [← hV, ← hbq]
            have Hro := Lib.hid hMk
            have HBel := Lib.hid hBel
            replace Hrs := Lib.hid (Hrs.out.below HBel.out)
            replace Hrh := Lib.hid (Hrh.out.below HBel.out)
            replace Hrg := Lib.hid (Hrg.out.below HBel.out)
            replace HB := Lib.hid (And.intro (HB.out.1.below HBel.out) (HB.out.2.trans (HBel.out.mono HB.out.2.size)))
            have hlo4 : ro = V3.heap.size := hbq
            have HLo4 := Lib.hid hlo4
            have hge4 : w.heap.size ≤ ro ∧ ro < V4.heap.size ∧ rs < ro ∧ rh < ro ∧ rg < ro := by omega
            have hws4 : w.heap.size ≤ V4.heap.size := by omega
            clear hV hbq hMk hBel HBel hlo4 HLo4 hsz4
            refine hKK.out _ _ (HHO.out _ HB.out.1) (fun hHeld => ?_)
            clear hKK KK
            try simp only [Act.put, List.setIfInBounds_toArray, List.set_cons_zero, List.set_cons_succ]
            refine AnyE.take2 (i := 15) [] (oi := { dst := some 34, op := Go.Op.build 120 #[(0, Go.Operand.tmp 19), (1, Go.Operand.tmp 20), (2, Go.Operand.tmp 21), (3, Go.Operand.tmp 24), (4, Go.Operand.tmp 27), (5, Go.Operand.tmp 30), (6, Go.Operand.tmp 33)], type := 120, pos := "verify.go:70", after := #[{ on := 0, ground := Go.Ground.data }, { on := 1, ground := Go.Ground.data }, { on := 2, ground := Go.Ground.data }, { on := 5, ground := Go.Ground.data }, { on := 8, ground := Go.Ground.data }, { on := 11, ground := Go.Ground.data }, { on := 14, ground := Go.Ground.data }], guard := none }) (v := ?_) rfl (by kernel_rfl) (by kernel_rfl) (by kernel_rfl) (by kernel_rfl) (fun _ _ _ h => h) (Or.inl ⟨by rfl, ?_⟩) (by assumption) ?_
            rotate_left
            · (intro w0 hSw; (try dsimp only at hSw); go_split_ands; go_simp; with_reducible rfl)
            try simp only [Act.put, List.setIfInBounds_toArray, List.set_cons_zero, List.set_cons_succ]
            refine AnyE.ready (rs := [16]) (by kernel_rfl) (by simp) ?_
            refine AllE.cons (o := { dst := some 35, op := Go.Op.box 120 (Go.Operand.tmp 34), type := 112, pos := "verify.go:70", after := #[{ on := 15, ground := Go.Ground.data }], guard := none }) rfl (fun KK hKK => ?_) AllE.nil
            go_simp
            have HQ := Lib.hid (HF0.out V4 ro rs rh rg Hro.out Hrs.out Hrh.out Hrg.out HB.out.2 (by omega) (by omega) (by omega) (by omega) (by omega))
            refine hKK.out _ _ (HHO.out _ (HB.out.1.alloc _)) (fun hHeld => ?_)
            clear hKK KK
            try simp only [Act.put, List.setIfInBounds_toArray, List.set_cons_zero, List.set_cons_succ]
            refine AnyE.ready (rs := [17]) (by kernel_rfl) (by simp) ?_
            refine AllE.last (o := { dst := some 8, op := Go.Op.assign (Go.Operand.tmp 35), type := 112, pos := "verify.go:70", after := #[{ on := 16, ground := Go.Ground.data }, { on := 0, ground := Go.Ground.phase }, { on := 1, ground := Go.Ground.phase }, { on := 2, ground := Go.Ground.phase }, { on := 3, ground := Go.Ground.phase }, { on := 4, ground := Go.Ground.phase }, { on := 5, ground := Go.Ground.phase }, { on := 6, ground := Go.Ground.phase }, { on := 7, ground := Go.Ground.phase }, { on := 8, ground := Go.Ground.phase }, { on := 9, ground := Go.Ground.phase }, { on := 10, ground := Go.Ground.phase }, { on := 11, ground := Go.Ground.phase }, { on := 12, ground := Go.Ground.phase }, { on := 13, ground := Go.Ground.phase }, { on := 14, ground := Go.Ground.phase }, { on := 15, ground := Go.Ground.phase }, { on := 16, ground := Go.Ground.phase }], guard := none }) rfl (by kernel_rfl) (fun KK hKK => ?_)
            go_simp
            refine hKK.out _ _ ?_
            clear hKK KK
            try simp only [Act.put, List.setIfInBounds_toArray, List.set_cons_zero, List.set_cons_succ]
            go_wp2_with fail
            obtain rfl := HN.out
            go_meet
            case rel => exact HQ.out
      · go_simp
        obtain ⟨V2, rg, hV, hbq, hMk, hBel, hsz2⟩ := mk2 n V1
        rw [← hV, ← hbq]
        have Hrg := Lib.hid hMk
        have HBel := Lib.hid hBel
        replace Hrs := Lib.hid (Hrs.out.below HBel.out)
        replace HB := Lib.hid (And.intro (HB.out.1.below HBel.out) (HB.out.2.trans (HBel.out.mono HB.out.2.size)))
        have hlo2 : rg = V1.heap.size := hbq
        have HLo2 := Lib.hid hlo2
        have hge2 : w.heap.size ≤ rg ∧ rg < V2.heap.size ∧ rs < rg := by omega
        have hws2 : w.heap.size ≤ V2.heap.size := by omega
        clear hV hbq hMk hBel HBel hlo2 HLo2 hsz2
        refine hKK.out _ _ (HHO.out _ HB.out.1) (fun hHeld => ?_)
        clear hKK KK
        try simp only [Act.put, List.setIfInBounds_toArray, List.set_cons_zero, List.set_cons_succ]
        refine AnyE.ready (rs := [5, 11]) (by kernel_rfl) (by simp) ?_
        refine AllE.cons (o := { dst := some 24, op := Go.Op.makeSlice 118 (Go.Operand.tmp 23) (Go.Operand.tmp 23), type := 118, pos := "verify.go:70", after := #[{ on := 4, ground := Go.Ground.data }, { on := 4, ground := Go.Ground.data }], guard := none }) rfl (fun KK hKK => ?_) (AllE.cons (o := { dst := some 30, op := Go.Op.makeSlice 63 (Go.Operand.tmp 29) (Go.Operand.tmp 29), type := 63, pos := "verify.go:70", after := #[{ on := 10, ground := Go.Ground.data }, { on := 10, ground := Go.Ground.data }], guard := none }) rfl (fun KK hKK => ?_) AllE.nil)
        · go_simp
          obtain ⟨V3, ro, hV, hbq, hMk, hBel, hsz3⟩ := mk0 n V2
          rw [← hV, ← hbq]
          have Hro := Lib.hid hMk
          have HBel := Lib.hid hBel
          replace Hrs := Lib.hid (Hrs.out.below HBel.out)
          replace Hrg := Lib.hid (Hrg.out.below HBel.out)
          replace HB := Lib.hid (And.intro (HB.out.1.below HBel.out) (HB.out.2.trans (HBel.out.mono HB.out.2.size)))
          have hlo3 : ro = V2.heap.size := hbq
          have HLo3 := Lib.hid hlo3
          have hge3 : w.heap.size ≤ ro ∧ ro < V3.heap.size ∧ rs < ro ∧ rg < ro := by omega
          have hws3 : w.heap.size ≤ V3.heap.size := by omega
          clear hV hbq hMk hBel HBel hlo3 HLo3 hsz3
          refine hKK.out _ _ (HHO.out _ HB.out.1) (fun hHeld => ?_)
          clear hKK KK
          try simp only [Act.put, List.setIfInBounds_toArray, List.set_cons_zero, List.set_cons_succ]
          refine AnyE.ready (rs := [11]) (by kernel_rfl) (by simp) ?_
          refine AllE.cons (o := { dst := some 30, op := Go.Op.makeSlice 63 (Go.Operand.tmp 29) (Go.Operand.tmp 29), type := 63, pos := "verify.go:70", after := #[{ on := 10, ground := Go.Ground.data }, { on := 10, ground := Go.Ground.data }], guard := none }) rfl (fun KK hKK => ?_) AllE.nil
          · go_simp
            obtain ⟨V4, rh, hV, hbq, hMk, hBel, hsz4⟩ := mk2 n V3
            rw [← hV, ← hbq]
            have Hrh := Lib.hid hMk
            have HBel := Lib.hid hBel
            replace Hrs := Lib.hid (Hrs.out.below HBel.out)
            replace Hrg := Lib.hid (Hrg.out.below HBel.out)
            replace Hro := Lib.hid (Hro.out.below HBel.out)
            replace HB := Lib.hid (And.intro (HB.out.1.below HBel.out) (HB.out.2.trans (HBel.out.mono HB.out.2.size)))
            have hlo4 : rh = V3.heap.size := hbq
            have HLo4 := Lib.hid hlo4
            have hge4 : w.heap.size ≤ rh ∧ rh < V4.heap.size ∧ rs < rh ∧ rg < rh ∧ ro < rh := by omega
            have hws4 : w.heap.size ≤ V4.heap.size := by omega
            clear hV hbq hMk hBel HBel hlo4 HLo4 hsz4
            refine hKK.out _ _ (HHO.out _ HB.out.1) (fun hHeld => ?_)
            clear hKK KK
            try simp only [Act.put, List.setIfInBounds_toArray, List.set_cons_zero, List.set_cons_succ]
            refine AnyE.take2 (i := 15) [] (oi := { dst := some 34, op := Go.Op.build 120 #[(0, Go.Operand.tmp 19), (1, Go.Operand.tmp 20), (2, Go.Operand.tmp 21), (3, Go.Operand.tmp 24), (4, Go.Operand.tmp 27), (5, Go.Operand.tmp 30), (6, Go.Operand.tmp 33)], type := 120, pos := "verify.go:70", after := #[{ on := 0, ground := Go.Ground.data }, { on := 1, ground := Go.Ground.data }, { on := 2, ground := Go.Ground.data }, { on := 5, ground := Go.Ground.data }, { on := 8, ground := Go.Ground.data }, { on := 11, ground := Go.Ground.data }, { on := 14, ground := Go.Ground.data }], guard := none }) (v := ?_) rfl (by kernel_rfl) (by kernel_rfl) (by kernel_rfl) (by kernel_rfl) (fun _ _ _ h => h) (Or.inl ⟨by rfl, ?_⟩) (by assumption) ?_
            rotate_left
            · (intro w0 hSw; (try dsimp only at hSw); go_split_ands; go_simp; with_reducible rfl)
            try simp only [Act.put, List.setIfInBounds_toArray, List.set_cons_zero, List.set_cons_succ]
            refine AnyE.ready (rs := [16]) (by kernel_rfl) (by simp) ?_
            refine AllE.cons (o := { dst := some 35, op := Go.Op.box 120 (Go.Operand.tmp 34), type := 112, pos := "verify.go:70", after := #[{ on := 15, ground := Go.Ground.data }], guard := none }) rfl (fun KK hKK => ?_) AllE.nil
            go_simp
            have HQ := Lib.hid (HF0.out V4 ro rs rh rg Hro.out Hrs.out Hrh.out Hrg.out HB.out.2 (by omega) (by omega) (by omega) (by omega) (by omega))
            refine hKK.out _ _ (HHO.out _ (HB.out.1.alloc _)) (fun hHeld => ?_)
            clear hKK KK
            try simp only [Act.put, List.setIfInBounds_toArray, List.set_cons_zero, List.set_cons_succ]
            refine AnyE.ready (rs := [17]) (by kernel_rfl) (by simp) ?_
            refine AllE.last (o := { dst := some 8, op := Go.Op.assign (Go.Operand.tmp 35), type := 112, pos := "verify.go:70", after := #[{ on := 16, ground := Go.Ground.data }, { on := 0, ground := Go.Ground.phase }, { on := 1, ground := Go.Ground.phase }, { on := 2, ground := Go.Ground.phase }, { on := 3, ground := Go.Ground.phase }, { on := 4, ground := Go.Ground.phase }, { on := 5, ground := Go.Ground.phase }, { on := 6, ground := Go.Ground.phase }, { on := 7, ground := Go.Ground.phase }, { on := 8, ground := Go.Ground.phase }, { on := 9, ground := Go.Ground.phase }, { on := 10, ground := Go.Ground.phase }, { on := 11, ground := Go.Ground.phase }, { on := 12, ground := Go.Ground.phase }, { on := 13, ground := Go.Ground.phase }, { on := 14, ground := Go.Ground.phase }, { on := 15, ground := Go.Ground.phase }, { on := 16, ground := Go.Ground.phase }], guard := none }) rfl (by kernel_rfl) (fun KK hKK => ?_)
            go_simp
            refine hKK.out _ _ ?_
            clear hKK KK
            try simp only [Act.put, List.setIfInBounds_toArray, List.set_cons_zero, List.set_cons_succ]
            go_wp2_with fail
            obtain rfl := HN.out
            go_meet
            case rel => exact HQ.out
        · go_simp
          obtain ⟨V3, rh, hV, hbq, hMk, hBel, hsz3⟩ := mk2 n V2
          rw [← hV, ← hbq]
          have Hrh := Lib.hid hMk
          have HBel := Lib.hid hBel
          replace Hrs := Lib.hid (Hrs.out.below HBel.out)
          replace Hrg := Lib.hid (Hrg.out.below HBel.out)
          replace HB := Lib.hid (And.intro (HB.out.1.below HBel.out) (HB.out.2.trans (HBel.out.mono HB.out.2.size)))
          have hlo3 : rh = V2.heap.size := hbq
          have HLo3 := Lib.hid hlo3
          have hge3 : w.heap.size ≤ rh ∧ rh < V3.heap.size ∧ rs < rh ∧ rg < rh := by omega
          have hws3 : w.heap.size ≤ V3.heap.size := by omega
          clear hV hbq hMk hBel HBel hlo3 HLo3 hsz3
          refine hKK.out _ _ (HHO.out _ HB.out.1) (fun hHeld => ?_)
          clear hKK KK
          try simp only [Act.put, List.setIfInBounds_toArray, List.set_cons_zero, List.set_cons_succ]
          refine AnyE.ready (rs := [5]) (by kernel_rfl) (by simp) ?_
          refine AllE.cons (o := { dst := some 24, op := Go.Op.makeSlice 118 (Go.Operand.tmp 23) (Go.Operand.tmp 23), type := 118, pos := "verify.go:70", after := #[{ on := 4, ground := Go.Ground.data }, { on := 4, ground := Go.Ground.data }], guard := none }) rfl (fun KK hKK => ?_) AllE.nil
          · go_simp
            obtain ⟨V4, ro, hV, hbq, hMk, hBel, hsz4⟩ := mk0 n V3
            rw [← hV, ← hbq]
            have Hro := Lib.hid hMk
            have HBel := Lib.hid hBel
            replace Hrs := Lib.hid (Hrs.out.below HBel.out)
            replace Hrg := Lib.hid (Hrg.out.below HBel.out)
            replace Hrh := Lib.hid (Hrh.out.below HBel.out)
            replace HB := Lib.hid (And.intro (HB.out.1.below HBel.out) (HB.out.2.trans (HBel.out.mono HB.out.2.size)))
            have hlo4 : ro = V3.heap.size := hbq
            have HLo4 := Lib.hid hlo4
            have hge4 : w.heap.size ≤ ro ∧ ro < V4.heap.size ∧ rs < ro ∧ rg < ro ∧ rh < ro := by omega
            have hws4 : w.heap.size ≤ V4.heap.size := by omega
            clear hV hbq hMk hBel HBel hlo4 HLo4 hsz4
            refine hKK.out _ _ (HHO.out _ HB.out.1) (fun hHeld => ?_)
            clear hKK KK
            try simp only [Act.put, List.setIfInBounds_toArray, List.set_cons_zero, List.set_cons_succ]
            refine AnyE.take2 (i := 15) [] (oi := { dst := some 34, op := Go.Op.build 120 #[(0, Go.Operand.tmp 19), (1, Go.Operand.tmp 20), (2, Go.Operand.tmp 21), (3, Go.Operand.tmp 24), (4, Go.Operand.tmp 27), (5, Go.Operand.tmp 30), (6, Go.Operand.tmp 33)], type := 120, pos := "verify.go:70", after := #[{ on := 0, ground := Go.Ground.data }, { on := 1, ground := Go.Ground.data }, { on := 2, ground := Go.Ground.data }, { on := 5, ground := Go.Ground.data }, { on := 8, ground := Go.Ground.data }, { on := 11, ground := Go.Ground.data }, { on := 14, ground := Go.Ground.data }], guard := none }) (v := ?_) rfl (by kernel_rfl) (by kernel_rfl) (by kernel_rfl) (by kernel_rfl) (fun _ _ _ h => h) (Or.inl ⟨by rfl, ?_⟩) (by assumption) ?_
            rotate_left
            · (intro w0 hSw; (try dsimp only at hSw); go_split_ands; go_simp; with_reducible rfl)
            try simp only [Act.put, List.setIfInBounds_toArray, List.set_cons_zero, List.set_cons_succ]
            refine AnyE.ready (rs := [16]) (by kernel_rfl) (by simp) ?_
            refine AllE.cons (o := { dst := some 35, op := Go.Op.box 120 (Go.Operand.tmp 34), type := 112, pos := "verify.go:70", after := #[{ on := 15, ground := Go.Ground.data }], guard := none }) rfl (fun KK hKK => ?_) AllE.nil
            go_simp
            have HQ := Lib.hid (HF0.out V4 ro rs rh rg Hro.out Hrs.out Hrh.out Hrg.out HB.out.2 (by omega) (by omega) (by omega) (by omega) (by omega))
            refine hKK.out _ _ (HHO.out _ (HB.out.1.alloc _)) (fun hHeld => ?_)
            clear hKK KK
            try simp only [Act.put, List.setIfInBounds_toArray, List.set_cons_zero, List.set_cons_succ]
            refine AnyE.ready (rs := [17]) (by kernel_rfl) (by simp) ?_
            refine AllE.last (o := { dst := some 8, op := Go.Op.assign (Go.Operand.tmp 35), type := 112, pos := "verify.go:70", after := #[{ on := 16, ground := Go.Ground.data }, { on := 0, ground := Go.Ground.phase }, { on := 1, ground := Go.Ground.phase }, { on := 2, ground := Go.Ground.phase }, { on := 3, ground := Go.Ground.phase }, { on := 4, ground := Go.Ground.phase }, { on := 5, ground := Go.Ground.phase }, { on := 6, ground := Go.Ground.phase }, { on := 7, ground := Go.Ground.phase }, { on := 8, ground := Go.Ground.phase }, { on := 9, ground := Go.Ground.phase }, { on := 10, ground := Go.Ground.phase }, { on := 11, ground := Go.Ground.phase }, { on := 12, ground := Go.Ground.phase }, { on := 13, ground := Go.Ground.phase }, { on := 14, ground := Go.Ground.phase }, { on := 15, ground := Go.Ground.phase }, { on := 16, ground := Go.Ground.phase }], guard := none }) rfl (by kernel_rfl) (fun KK hKK => ?_)
            go_simp
            refine hKK.out _ _ ?_
            clear hKK KK
            try simp only [Act.put, List.setIfInBounds_toArray, List.set_cons_zero, List.set_cons_succ]
            go_wp2_with fail
            obtain rfl := HN.out
            go_meet
            case rel => exact HQ.out
    · go_simp
      obtain ⟨V1, rh, hV, hbq, hMk, hBel, hsz1⟩ := mk2 n V0
      rw [← hV, ← hbq]
      have Hrh := Lib.hid hMk
      have HBel := Lib.hid hBel
      replace HB := Lib.hid (And.intro (HB.out.1.below HBel.out) (HB.out.2.trans (HBel.out.mono HB.out.2.size)))
      have hlo1 : rh = V0.heap.size := hbq
      have HLo1 := Lib.hid hlo1
      have hge1 : w.heap.size ≤ rh ∧ rh < V1.heap.size := by omega
      have hws1 : w.heap.size ≤ V1.heap.size := by omega
      clear hV hbq hMk hBel HBel hlo1 HLo1 hsz1
      refine hKK.out _ _ (HHO.out _ HB.out.1) (fun hHeld => ?_)
      clear hKK KK
      try simp only [Act.put, List.setIfInBounds_toArray, List.set_cons_zero, List.set_cons_succ]
      refine AnyE.ready (rs := [5, 8, 14]) (by kernel_rfl) (by simp) ?_
      refine AllE.cons (o := { dst := some 24, op := Go.Op.makeSlice 118 (Go.Operand.tmp 23) (Go.Operand.tmp 23), type := 118, pos := "verify.go:70", after := #[{ on := 4, ground := Go.Ground.data }, { on := 4, ground := Go.Ground.data }], guard := none }) rfl (fun KK hKK => ?_) (AllE.cons (o := { dst := some 27, op := Go.Op.makeSlice 62 (Go.Operand.tmp 26) (Go.Operand.tmp 26), type := 62, pos := "verify.go:70", after := #[{ on := 7, ground := Go.Ground.data }, { on := 7, ground := Go.Ground.data }], guard := none }) rfl (fun KK hKK => ?_) (AllE.cons (o := { dst := some 33, op := Go.Op.makeSlice 63 (Go.Operand.tmp 32) (Go.Operand.tmp 32), type := 63, pos := "verify.go:70", after := #[{ on := 13, ground := Go.Ground.data }, { on := 13, ground := Go.Ground.data }], guard := none }) rfl (fun KK hKK => ?_) AllE.nil))
      · go_simp
        obtain ⟨V2, ro, hV, hbq, hMk, hBel, hsz2⟩ := mk0 n V1
        rw [← hV, ← hbq]
        have Hro := Lib.hid hMk
        have HBel := Lib.hid hBel
        replace Hrh := Lib.hid (Hrh.out.below HBel.out)
        replace HB := Lib.hid (And.intro (HB.out.1.below HBel.out) (HB.out.2.trans (HBel.out.mono HB.out.2.size)))
        have hlo2 : ro = V1.heap.size := hbq
        have HLo2 := Lib.hid hlo2
        have hge2 : w.heap.size ≤ ro ∧ ro < V2.heap.size ∧ rh < ro := by omega
        have hws2 : w.heap.size ≤ V2.heap.size := by omega
        clear hV hbq hMk hBel HBel hlo2 HLo2 hsz2
        refine hKK.out _ _ (HHO.out _ HB.out.1) (fun hHeld => ?_)
        clear hKK KK
        try simp only [Act.put, List.setIfInBounds_toArray, List.set_cons_zero, List.set_cons_succ]
        refine AnyE.ready (rs := [8, 14]) (by kernel_rfl) (by simp) ?_
        refine AllE.cons (o := { dst := some 27, op := Go.Op.makeSlice 62 (Go.Operand.tmp 26) (Go.Operand.tmp 26), type := 62, pos := "verify.go:70", after := #[{ on := 7, ground := Go.Ground.data }, { on := 7, ground := Go.Ground.data }], guard := none }) rfl (fun KK hKK => ?_) (AllE.cons (o := { dst := some 33, op := Go.Op.makeSlice 63 (Go.Operand.tmp 32) (Go.Operand.tmp 32), type := 63, pos := "verify.go:70", after := #[{ on := 13, ground := Go.Ground.data }, { on := 13, ground := Go.Ground.data }], guard := none }) rfl (fun KK hKK => ?_) AllE.nil)
        · go_simp
          obtain ⟨V3, rs, hV, hbq, hMk, hBel, hsz3⟩ := mk1 n V2
          rw [← hV, ← hbq]
          have Hrs := Lib.hid hMk
          have HBel := Lib.hid hBel
          replace Hrh := Lib.hid (Hrh.out.below HBel.out)
          replace Hro := Lib.hid (Hro.out.below HBel.out)
          replace HB := Lib.hid (And.intro (HB.out.1.below HBel.out) (HB.out.2.trans (HBel.out.mono HB.out.2.size)))
          have hlo3 : rs = V2.heap.size := hbq
          have HLo3 := Lib.hid hlo3
          have hge3 : w.heap.size ≤ rs ∧ rs < V3.heap.size ∧ rh < rs ∧ ro < rs := by omega
          have hws3 : w.heap.size ≤ V3.heap.size := by omega
          clear hV hbq hMk hBel HBel hlo3 HLo3 hsz3
          refine hKK.out _ _ (HHO.out _ HB.out.1) (fun hHeld => ?_)
          clear hKK KK
          try simp only [Act.put, List.setIfInBounds_toArray, List.set_cons_zero, List.set_cons_succ]
          refine AnyE.ready (rs := [14]) (by kernel_rfl) (by simp) ?_
          refine AllE.cons (o := { dst := some 33, op := Go.Op.makeSlice 63 (Go.Operand.tmp 32) (Go.Operand.tmp 32), type := 63, pos := "verify.go:70", after := #[{ on := 13, ground := Go.Ground.data }, { on := 13, ground := Go.Ground.data }], guard := none }) rfl (fun KK hKK => ?_) AllE.nil
          · go_simp
            obtain ⟨V4, rg, hV, hbq, hMk, hBel, hsz4⟩ := mk2 n V3
            rw [← hV, ← hbq]
            have Hrg := Lib.hid hMk
            have HBel := Lib.hid hBel
            replace Hrh := Lib.hid (Hrh.out.below HBel.out)
            replace Hro := Lib.hid (Hro.out.below HBel.out)
            replace Hrs := Lib.hid (Hrs.out.below HBel.out)
            replace HB := Lib.hid (And.intro (HB.out.1.below HBel.out) (HB.out.2.trans (HBel.out.mono HB.out.2.size)))
            have hlo4 : rg = V3.heap.size := hbq
            have HLo4 := Lib.hid hlo4
            have hge4 : w.heap.size ≤ rg ∧ rg < V4.heap.size ∧ rh < rg ∧ ro < rg ∧ rs < rg := by omega
            have hws4 : w.heap.size ≤ V4.heap.size := by omega
            clear hV hbq hMk hBel HBel hlo4 HLo4 hsz4
            refine hKK.out _ _ (HHO.out _ HB.out.1) (fun hHeld => ?_)
            clear hKK KK
            try simp only [Act.put, List.setIfInBounds_toArray, List.set_cons_zero, List.set_cons_succ]
            refine AnyE.take2 (i := 15) [] (oi := { dst := some 34, op := Go.Op.build 120 #[(0, Go.Operand.tmp 19), (1, Go.Operand.tmp 20), (2, Go.Operand.tmp 21), (3, Go.Operand.tmp 24), (4, Go.Operand.tmp 27), (5, Go.Operand.tmp 30), (6, Go.Operand.tmp 33)], type := 120, pos := "verify.go:70", after := #[{ on := 0, ground := Go.Ground.data }, { on := 1, ground := Go.Ground.data }, { on := 2, ground := Go.Ground.data }, { on := 5, ground := Go.Ground.data }, { on := 8, ground := Go.Ground.data }, { on := 11, ground := Go.Ground.data }, { on := 14, ground := Go.Ground.data }], guard := none }) (v := ?_) rfl (by kernel_rfl) (by kernel_rfl) (by kernel_rfl) (by kernel_rfl) (fun _ _ _ h => h) (Or.inl ⟨by rfl, ?_⟩) (by assumption) ?_
            rotate_left
            · (intro w0 hSw; (try dsimp only at hSw); go_split_ands; go_simp; with_reducible rfl)
            try simp only [Act.put, List.setIfInBounds_toArray, List.set_cons_zero, List.set_cons_succ]
            refine AnyE.ready (rs := [16]) (by kernel_rfl) (by simp) ?_
            refine AllE.cons (o := { dst := some 35, op := Go.Op.box 120 (Go.Operand.tmp 34), type := 112, pos := "verify.go:70", after := #[{ on := 15, ground := Go.Ground.data }], guard := none }) rfl (fun KK hKK => ?_) AllE.nil
            go_simp
            have HQ := Lib.hid (HF0.out V4 ro rs rh rg Hro.out Hrs.out Hrh.out Hrg.out HB.out.2 (by omega) (by omega) (by omega) (by omega) (by omega))
            refine hKK.out _ _ (HHO.out _ (HB.out.1.alloc _)) (fun hHeld => ?_)
            clear hKK KK
            try simp only [Act.put, List.setIfInBounds_toArray, List.set_cons_zero, List.set_cons_succ]
            refine AnyE.ready (rs := [17]) (by kernel_rfl) (by simp) ?_
            refine AllE.last (o := { dst := some 8, op := Go.Op.assign (Go.Operand.tmp 35), type := 112, pos := "verify.go:70", after := #[{ on := 16, ground := Go.Ground.data }, { on := 0, ground := Go.Ground.phase }, { on := 1, ground := Go.Ground.phase }, { on := 2, ground := Go.Ground.phase }, { on := 3, ground := Go.Ground.phase }, { on := 4, ground := Go.Ground.phase }, { on := 5, ground := Go.Ground.phase }, { on := 6, ground := Go.Ground.phase }, { on := 7, ground := Go.Ground.phase }, { on := 8, ground := Go.Ground.phase }, { on := 9, ground := Go.Ground.phase }, { on := 10, ground := Go.Ground.phase }, { on := 11, ground := Go.Ground.phase }, { on := 12, ground := Go.Ground.phase }, { on := 13, ground := Go.Ground.phase }, { on := 14, ground := Go.Ground.phase }, { on := 15, ground := Go.Ground.phase }, { on := 16, ground := Go.Ground.phase }], guard := none }) rfl (by kernel_rfl) (fun KK hKK => ?_)
            go_simp
            refine hKK.out _ _ ?_
            clear hKK KK
            try simp only [Act.put, List.setIfInBounds_toArray, List.set_cons_zero, List.set_cons_succ]
            go_wp2_with fail
            obtain rfl := HN.out
            go_meet
            case rel => exact HQ.out
        · go_simp
          obtain ⟨V3, rg, hV, hbq, hMk, hBel, hsz3⟩ := mk2 n V2
          rw [← hV, ← hbq]
          have Hrg := Lib.hid hMk
          have HBel := Lib.hid hBel
          replace Hrh := Lib.hid (Hrh.out.below HBel.out)
          replace Hro := Lib.hid (Hro.out.below HBel.out)
          replace HB := Lib.hid (And.intro (HB.out.1.below HBel.out) (HB.out.2.trans (HBel.out.mono HB.out.2.size)))
          have hlo3 : rg = V2.heap.size := hbq
          have HLo3 := Lib.hid hlo3
          have hge3 : w.heap.size ≤ rg ∧ rg < V3.heap.size ∧ rh < rg ∧ ro < rg := by omega
          have hws3 : w.heap.size ≤ V3.heap.size := by omega
          clear hV hbq hMk hBel HBel hlo3 HLo3 hsz3
          refine hKK.out _ _ (HHO.out _ HB.out.1) (fun hHeld => ?_)
          clear hKK KK
          try simp only [Act.put, List.setIfInBounds_toArray, List.set_cons_zero, List.set_cons_succ]
          refine AnyE.ready (rs := [8]) (by kernel_rfl) (by simp) ?_
          refine AllE.cons (o := { dst := some 27, op := Go.Op.makeSlice 62 (Go.Operand.tmp 26) (Go.Operand.tmp 26), type := 62, pos := "verify.go:70", after := #[{ on := 7, ground := Go.Ground.data }, { on := 7, ground := Go.Ground.data }], guard := none }) rfl (fun KK hKK => ?_) AllE.nil
          · go_simp
            obtain ⟨V4, rs, hV, hbq, hMk, hBel, hsz4⟩ := mk1 n V3
            rw [← hV, ← hbq]
            have Hrs := Lib.hid hMk
            have HBel := Lib.hid hBel
            replace Hrh := Lib.hid (Hrh.out.below HBel.out)
            replace Hro := Lib.hid (Hro.out.below HBel.out)
            replace Hrg := Lib.hid (Hrg.out.below HBel.out)
            replace HB := Lib.hid (And.intro (HB.out.1.below HBel.out) (HB.out.2.trans (HBel.out.mono HB.out.2.size)))
            have hlo4 : rs = V3.heap.size := hbq
            have HLo4 := Lib.hid hlo4
            have hge4 : w.heap.size ≤ rs ∧ rs < V4.heap.size ∧ rh < rs ∧ ro < rs ∧ rg < rs := by omega
            have hws4 : w.heap.size ≤ V4.heap.size := by omega
            clear hV hbq hMk hBel HBel hlo4 HLo4 hsz4
            refine hKK.out _ _ (HHO.out _ HB.out.1) (fun hHeld => ?_)
            clear hKK KK
            try simp only [Act.put, List.setIfInBounds_toArray, List.set_cons_zero, List.set_cons_succ]
            refine AnyE.take2 (i := 15) [] (oi := { dst := some 34, op := Go.Op.build 120 #[(0, Go.Operand.tmp 19), (1, Go.Operand.tmp 20), (2, Go.Operand.tmp 21), (3, Go.Operand.tmp 24), (4, Go.Operand.tmp 27), (5, Go.Operand.tmp 30), (6, Go.Operand.tmp 33)], type := 120, pos := "verify.go:70", after := #[{ on := 0, ground := Go.Ground.data }, { on := 1, ground := Go.Ground.data }, { on := 2, ground := Go.Ground.data }, { on := 5, ground := Go.Ground.data }, { on := 8, ground := Go.Ground.data }, { on := 11, ground := Go.Ground.data }, { on := 14, ground := Go.Ground.data }], guard := none }) (v := ?_) rfl (by kernel_rfl) (by kernel_rfl) (by kernel_rfl) (by kernel_rfl) (fun _ _ _ h => h) (Or.inl ⟨by rfl, ?_⟩) (by assumption) ?_
            rotate_left
            · (intro w0 hSw; (try dsimp only at hSw); go_split_ands; go_simp; with_reducible rfl)
            try simp only [Act.put, List.setIfInBounds_toArray, List.set_cons_zero, List.set_cons_succ]
            refine AnyE.ready (rs := [16]) (by kernel_rfl) (by simp) ?_
            refine AllE.cons (o := { dst := some 35, op := Go.Op.box 120 (Go.Operand.tmp 34), type := 112, pos := "verify.go:70", after := #[{ on := 15, ground := Go.Ground.data }], guard := none }) rfl (fun KK hKK => ?_) AllE.nil
            go_simp
            have HQ := Lib.hid (HF0.out V4 ro rs rh rg Hro.out Hrs.out Hrh.out Hrg.out HB.out.2 (by omega) (by omega) (by omega) (by omega) (by omega))
            refine hKK.out _ _ (HHO.out _ (HB.out.1.alloc _)) (fun hHeld => ?_)
            clear hKK KK
            try simp only [Act.put, List.setIfInBounds_toArray, List.set_cons_zero, List.set_cons_succ]
            refine AnyE.ready (rs := [17]) (by kernel_rfl) (by simp) ?_
            refine AllE.last (o := { dst := some 8, op := Go.Op.assign (Go.Operand.tmp 35), type := 112, pos := "verify.go:70", after := #[{ on := 16, ground := Go.Ground.data }, { on := 0, ground := Go.Ground.phase }, { on := 1, ground := Go.Ground.phase }, { on := 2, ground := Go.Ground.phase }, { on := 3, ground := Go.Ground.phase }, { on := 4, ground := Go.Ground.phase }, { on := 5, ground := Go.Ground.phase }, { on := 6, ground := Go.Ground.phase }, { on := 7, ground := Go.Ground.phase }, { on := 8, ground := Go.Ground.phase }, { on := 9, ground := Go.Ground.phase }, { on := 10, ground := Go.Ground.phase }, { on := 11, ground := Go.Ground.phase }, { on := 12, ground := Go.Ground.phase }, { on := 13, ground := Go.Ground.phase }, { on := 14, ground := Go.Ground.phase }, { on := 15, ground := Go.Ground.phase }, { on := 16, ground := Go.Ground.phase }], guard := none }) rfl (by kernel_rfl) (fun KK hKK => ?_)
            go_simp
            refine hKK.out _ _ ?_
            clear hKK KK
            try simp only [Act.put, List.setIfInBounds_toArray, List.set_cons_zero, List.set_cons_succ]
            go_wp2_with fail
            obtain rfl := HN.out
            go_meet
            case rel => exact HQ.out
      · go_simp
        obtain ⟨V2, rs, hV, hbq, hMk, hBel, hsz2⟩ := mk1 n V1
        rw [← hV, ← hbq]
        have Hrs := Lib.hid hMk
        have HBel := Lib.hid hBel
        replace Hrh := Lib.hid (Hrh.out.below HBel.out)
        replace HB := Lib.hid (And.intro (HB.out.1.below HBel.out) (HB.out.2.trans (HBel.out.mono HB.out.2.size)))
        have hlo2 : rs = V1.heap.size := hbq
        have HLo2 := Lib.hid hlo2
        have hge2 : w.heap.size ≤ rs ∧ rs < V2.heap.size ∧ rh < rs := by omega
        have hws2 : w.heap.size ≤ V2.heap.size := by omega
        clear hV hbq hMk hBel HBel hlo2 HLo2 hsz2
        refine hKK.out _ _ (HHO.out _ HB.out.1) (fun hHeld => ?_)
        clear hKK KK
        try simp only [Act.put, List.setIfInBounds_toArray, List.set_cons_zero, List.set_cons_succ]
        refine AnyE.ready (rs := [5, 14]) (by kernel_rfl) (by simp) ?_
        refine AllE.cons (o := { dst := some 24, op := Go.Op.makeSlice 118 (Go.Operand.tmp 23) (Go.Operand.tmp 23), type := 118, pos := "verify.go:70", after := #[{ on := 4, ground := Go.Ground.data }, { on := 4, ground := Go.Ground.data }], guard := none }) rfl (fun KK hKK => ?_) (AllE.cons (o := { dst := some 33, op := Go.Op.makeSlice 63 (Go.Operand.tmp 32) (Go.Operand.tmp 32), type := 63, pos := "verify.go:70", after := #[{ on := 13, ground := Go.Ground.data }, { on := 13, ground := Go.Ground.data }], guard := none }) rfl (fun KK hKK => ?_) AllE.nil)
        · go_simp
          obtain ⟨V3, ro, hV, hbq, hMk, hBel, hsz3⟩ := mk0 n V2
          rw [← hV, ← hbq]
          have Hro := Lib.hid hMk
          have HBel := Lib.hid hBel
          replace Hrh := Lib.hid (Hrh.out.below HBel.out)
          replace Hrs := Lib.hid (Hrs.out.below HBel.out)
          replace HB := Lib.hid (And.intro (HB.out.1.below HBel.out) (HB.out.2.trans (HBel.out.mono HB.out.2.size)))
          have hlo3 : ro = V2.heap.size := hbq
          have HLo3 := Lib.hid hlo3
          have hge3 : w.heap.size ≤ ro ∧ ro < V3.heap.size ∧ rh < ro ∧ rs < ro := by omega
          have hws3 : w.heap.size ≤ V3.heap.size := by omega
          clear hV hbq hMk hBel HBel hlo3 HLo3 hsz3
          refine hKK.out _ _ (HHO.out _ HB.out.1) (fun hHeld => ?_)
          clear hKK KK
          try simp only [Act.put, List.setIfInBounds_toArray, List.set_cons_zero, List.set_cons_succ]
          refine AnyE.ready (rs := [14]) (by kernel_rfl) (by simp) ?_
          refine AllE.cons (o := { dst := some 33, op := Go.Op.makeSlice 63 (Go.Operand.tmp 32) (Go.Operand.tmp 32), type := 63, pos := "verify.go:70", after := #[{ on := 13, ground := Go.Ground.data }, { on := 13, ground := Go.Ground.data }], guard := none }) rfl (fun KK hKK => ?_) AllE.nil
          · go_simp
            obtain ⟨V4, rg, hV, hbq, hMk, hBel, hsz4⟩ := mk2 n V3
            rw [← hV, ← hbq]
            have Hrg := Lib.hid hMk
            have HBel := Lib.hid hBel
            replace Hrh := Lib.hid (Hrh.out.below HBel.out)
            replace Hrs := Lib.hid (Hrs.out.below HBel.out)
            replace Hro := Lib.hid (Hro.out.below HBel.out)
            replace HB := Lib.hid (And.intro (HB.out.1.below HBel.out) (HB.out.2.trans (HBel.out.mono HB.out.2.size)))
            have hlo4 : rg = V3.heap.size := hbq
            have HLo4 := Lib.hid hlo4
            have hge4 : w.heap.size ≤ rg ∧ rg < V4.heap.size ∧ rh < rg ∧ rs < rg ∧ ro < rg := by omega
            have hws4 : w.heap.size ≤ V4.heap.size := by omega
            clear hV hbq hMk hBel HBel hlo4 HLo4 hsz4
            refine hKK.out _ _ (HHO.out _ HB.out.1) (fun hHeld => ?_)
            clear hKK KK
            try simp only [Act.put, List.setIfInBounds_toArray, List.set_cons_zero, List.set_cons_succ]
            refine AnyE.take2 (i := 15) [] (oi := { dst := some 34, op := Go.Op.build 120 #[(0, Go.Operand.tmp 19), (1, Go.Operand.tmp 20), (2, Go.Operand.tmp 21), (3, Go.Operand.tmp 24), (4, Go.Operand.tmp 27), (5, Go.Operand.tmp 30), (6, Go.Operand.tmp 33)], type := 120, pos := "verify.go:70", after := #[{ on := 0, ground := Go.Ground.data }, { on := 1, ground := Go.Ground.data }, { on := 2, ground := Go.Ground.data }, { on := 5, ground := Go.Ground.data }, { on := 8, ground := Go.Ground.data }, { on := 11, ground := Go.Ground.data }, { on := 14, ground := Go.Ground.data }], guard := none }) (v := ?_) rfl (by kernel_rfl) (by kernel_rfl) (by kernel_rfl) (by kernel_rfl) (fun _ _ _ h => h) (Or.inl ⟨by rfl, ?_⟩) (by assumption) ?_
            rotate_left
            · (intro w0 hSw; (try dsimp only at hSw); go_split_ands; go_simp; with_reducible rfl)
            try simp only [Act.put, List.setIfInBounds_toArray, List.set_cons_zero, List.set_cons_succ]
            refine AnyE.ready (rs := [16]) (by kernel_rfl) (by simp) ?_
            refine AllE.cons (o := { dst := some 35, op := Go.Op.box 120 (Go.Operand.tmp 34), type := 112, pos := "verify.go:70", after := #[{ on := 15, ground := Go.Ground.data }], guard := none }) rfl (fun KK hKK => ?_) AllE.nil
            go_simp
            have HQ := Lib.hid (HF0.out V4 ro rs rh rg Hro.out Hrs.out Hrh.out Hrg.out HB.out.2 (by omega) (by omega) (by omega) (by omega) (by omega))
            refine hKK.out _ _ (HHO.out _ (HB.out.1.alloc _)) (fun hHeld => ?_)
            clear hKK KK
            try simp only [Act.put, List.setIfInBounds_toArray, List.set_cons_zero, List.set_cons_succ]
            refine AnyE.ready (rs := [17]) (by kernel_rfl) (by simp) ?_
            refine AllE.last (o := { dst := some 8, op := Go.Op.assign (Go.Operand.tmp 35), type := 112, pos := "verify.go:70", after := #[{ on := 16, ground := Go.Ground.data }, { on := 0, ground := Go.Ground.phase }, { on := 1, ground := Go.Ground.phase }, { on := 2, ground := Go.Ground.phase }, { on := 3, ground := Go.Ground.phase }, { on := 4, ground := Go.Ground.phase }, { on := 5, ground := Go.Ground.phase }, { on := 6, ground := Go.Ground.phase }, { on := 7, ground := Go.Ground.phase }, { on := 8, ground := Go.Ground.phase }, { on := 9, ground := Go.Ground.phase }, { on := 10, ground := Go.Ground.phase }, { on := 11, ground := Go.Ground.phase }, { on := 12, ground := Go.Ground.phase }, { on := 13, ground := Go.Ground.phase }, { on := 14, ground := Go.Ground.phase }, { on := 15, ground := Go.Ground.phase }, { on := 16, ground := Go.Ground.phase }], guard := none }) rfl (by kernel_rfl) (fun KK hKK => ?_)
            go_simp
            refine hKK.out _ _ ?_
            clear hKK KK
            try simp only [Act.put, List.setIfInBounds_toArray, List.set_cons_zero, List.set_cons_succ]
            go_wp2_with fail
            obtain rfl := HN.out
            go_meet
            case rel => exact HQ.out
        · go_simp
          obtain ⟨V3, rg, hV, hbq, hMk, hBel, hsz3⟩ := mk2 n V2
          rw [← hV, ← hbq]
          have Hrg := Lib.hid hMk
          have HBel := Lib.hid hBel
          replace Hrh := Lib.hid (Hrh.out.below HBel.out)
          replace Hrs := Lib.hid (Hrs.out.below HBel.out)
          replace HB := Lib.hid (And.intro (HB.out.1.below HBel.out) (HB.out.2.trans (HBel.out.mono HB.out.2.size)))
          have hlo3 : rg = V2.heap.size := hbq
          have HLo3 := Lib.hid hlo3
          have hge3 : w.heap.size ≤ rg ∧ rg < V3.heap.size ∧ rh < rg ∧ rs < rg := by omega
          have hws3 : w.heap.size ≤ V3.heap.size := by omega
          clear hV hbq hMk hBel HBel hlo3 HLo3 hsz3
          refine hKK.out _ _ (HHO.out _ HB.out.1) (fun hHeld => ?_)
          clear hKK KK
          try simp only [Act.put, List.setIfInBounds_toArray, List.set_cons_zero, List.set_cons_succ]
          refine AnyE.ready (rs := [5]) (by kernel_rfl) (by simp) ?_
          refine AllE.cons (o := { dst := some 24, op := Go.Op.makeSlice 118 (Go.Operand.tmp 23) (Go.Operand.tmp 23), type := 118, pos := "verify.go:70", after := #[{ on := 4, ground := Go.Ground.data }, { on := 4, ground := Go.Ground.data }], guard := none }) rfl (fun KK hKK => ?_) AllE.nil
          · go_simp
            obtain ⟨V4, ro, hV, hbq, hMk, hBel, hsz4⟩ := mk0 n V3
            rw [← hV, ← hbq]
            have Hro := Lib.hid hMk
            have HBel := Lib.hid hBel
            replace Hrh := Lib.hid (Hrh.out.below HBel.out)
            replace Hrs := Lib.hid (Hrs.out.below HBel.out)
            replace Hrg := Lib.hid (Hrg.out.below HBel.out)
            replace HB := Lib.hid (And.intro (HB.out.1.below HBel.out) (HB.out.2.trans (HBel.out.mono HB.out.2.size)))
            have hlo4 : ro = V3.heap.size := hbq
            have HLo4 := Lib.hid hlo4
            have hge4 : w.heap.size ≤ ro ∧ ro < V4.heap.size ∧ rh < ro ∧ rs < ro ∧ rg < ro := by omega
            have hws4 : w.heap.size ≤ V4.heap.size := by omega
            clear hV hbq hMk hBel HBel hlo4 HLo4 hsz4
            refine hKK.out _ _ (HHO.out _ HB.out.1) (fun hHeld => ?_)
            clear hKK KK
            try simp only [Act.put, List.setIfInBounds_toArray, List.set_cons_zero, List.set_cons_succ]
            refine AnyE.take2 (i := 15) [] (oi := { dst := some 34, op := Go.Op.build 120 #[(0, Go.Operand.tmp 19), (1, Go.Operand.tmp 20), (2, Go.Operand.tmp 21), (3, Go.Operand.tmp 24), (4, Go.Operand.tmp 27), (5, Go.Operand.tmp 30), (6, Go.Operand.tmp 33)], type := 120, pos := "verify.go:70", after := #[{ on := 0, ground := Go.Ground.data }, { on := 1, ground := Go.Ground.data }, { on := 2, ground := Go.Ground.data }, { on := 5, ground := Go.Ground.data }, { on := 8, ground := Go.Ground.data }, { on := 11, ground := Go.Ground.data }, { on := 14, ground := Go.Ground.data }], guard := none }) (v := ?_) rfl (by kernel_rfl) (by kernel_rfl) (by kernel_rfl) (by kernel_rfl) (fun _ _ _ h => h) (Or.inl ⟨by rfl, ?_⟩) (by assumption) ?_
            rotate_left
            · (intro w0 hSw; (try dsimp only at hSw); go_split_ands; go_simp; with_reducible rfl)
            try simp only [Act.put, List.setIfInBounds_toArray, List.set_cons_zero, List.set_cons_succ]
            refine AnyE.ready (rs := [16]) (by kernel_rfl) (by simp) ?_
            refine AllE.cons (o := { dst := some 35, op := Go.Op.box 120 (Go.Operand.tmp 34), type := 112, pos := "verify.go:70", after := #[{ on := 15, ground := Go.Ground.data }], guard := none }) rfl (fun KK hKK => ?_) AllE.nil
            go_simp
            have HQ := Lib.hid (HF0.out V4 ro rs rh rg Hro.out Hrs.out Hrh.out Hrg.out HB.out.2 (by omega) (by omega) (by omega) (by omega) (by omega))
            refine hKK.out _ _ (HHO.out _ (HB.out.1.alloc _)) (fun hHeld => ?_)
            clear hKK KK
            try simp only [Act.put, List.setIfInBounds_toArray, List.set_cons_zero, List.set_cons_succ]
            refine AnyE.ready (rs := [17]) (by kernel_rfl) (by simp) ?_
            refine AllE.last (o := { dst := some 8, op := Go.Op.assign (Go.Operand.tmp 35), type := 112, pos := "verify.go:70", after := #[{ on := 16, ground := Go.Ground.data }, { on := 0, ground := Go.Ground.phase }, { on := 1, ground := Go.Ground.phase }, { on := 2, ground := Go.Ground.phase }, { on := 3, ground := Go.Ground.phase }, { on := 4, ground := Go.Ground.phase }, { on := 5, ground := Go.Ground.phase }, { on := 6, ground := Go.Ground.phase }, { on := 7, ground := Go.Ground.phase }, { on := 8, ground := Go.Ground.phase }, { on := 9, ground := Go.Ground.phase }, { on := 10, ground := Go.Ground.phase }, { on := 11, ground := Go.Ground.phase }, { on := 12, ground := Go.Ground.phase }, { on := 13, ground := Go.Ground.phase }, { on := 14, ground := Go.Ground.phase }, { on := 15, ground := Go.Ground.phase }, { on := 16, ground := Go.Ground.phase }], guard := none }) rfl (by kernel_rfl) (fun KK hKK => ?_)
            go_simp
            refine hKK.out _ _ ?_
            clear hKK KK
            try simp only [Act.put, List.setIfInBounds_toArray, List.set_cons_zero, List.set_cons_succ]
            go_wp2_with fail
            obtain rfl := HN.out
            go_meet
            case rel => exact HQ.out
      · go_simp
        obtain ⟨V2, rg, hV, hbq, hMk, hBel, hsz2⟩ := mk2 n V1
        rw [← hV, ← hbq]
        have Hrg := Lib.hid hMk
        have HBel := Lib.hid hBel
        replace Hrh := Lib.hid (Hrh.out.below HBel.out)
        replace HB := Lib.hid (And.intro (HB.out.1.below HBel.out) (HB.out.2.trans (HBel.out.mono HB.out.2.size)))
        have hlo2 : rg = V1.heap.size := hbq
        have HLo2 := Lib.hid hlo2
        have hge2 : w.heap.size ≤ rg ∧ rg < V2.heap.size ∧ rh < rg := by omega
        have hws2 : w.heap.size ≤ V2.heap.size := by omega
        clear hV hbq hMk hBel HBel hlo2 HLo2 hsz2
        refine hKK.out _ _ (HHO.out _ HB.out.1) (fun hHeld => ?_)
        clear hKK KK
        try simp only [Act.put, List.setIfInBounds_toArray, List.set_cons_zero, List.set_cons_succ]
        refine AnyE.ready (rs := [5, 8]) (by kernel_rfl) (by simp) ?_
        refine AllE.cons (o := { dst := some 24, op := Go.Op.makeSlice 118 (Go.Operand.tmp 23) (Go.Operand.tmp 23), type := 118, pos := "verify.go:70", after := #[{ on := 4, ground := Go.Ground.data }, { on := 4, ground := Go.Ground.data }], guard := none }) rfl (fun KK hKK => ?_) (AllE.cons (o := { dst := some 27, op := Go.Op.makeSlice 62 (Go.Operand.tmp 26) (Go.Operand.tmp 26), type := 62, pos := "verify.go:70", after := #[{ on := 7, ground := Go.Ground.data }, { on := 7, ground := Go.Ground.data }], guard := none }) rfl (fun KK hKK => ?_) AllE.nil)
        · go_simp
          obtain ⟨V3, ro, hV, hbq, hMk, hBel, hsz3⟩ := mk0 n V2
          rw [← hV, ← hbq]
          have Hro := Lib.hid hMk
          have HBel := Lib.hid hBel
          replace Hrh := Lib.hid (Hrh.out.below HBel.out)
          replace Hrg := Lib.hid (Hrg.out.below HBel.out)
          replace HB := Lib.hid (And.intro (HB.out.1.below HBel.out) (HB.out.2.trans (HBel.out.mono HB.out.2.size)))
          have hlo3 : ro = V2.heap.size := hbq
          have HLo3 := Lib.hid hlo3
          have hge3 : w.heap.size ≤ ro ∧ ro < V3.heap.size ∧ rh < ro ∧ rg < ro := by omega
          have hws3 : w.heap.size ≤ V3.heap.size := by omega
          clear hV hbq hMk hBel HBel hlo3 HLo3 hsz3
          refine hKK.out _ _ (HHO.out _ HB.out.1) (fun hHeld => ?_)
          clear hKK KK
          try simp only [Act.put, List.setIfInBounds_toArray, List.set_cons_zero, List.set_cons_succ]
          refine AnyE.ready (rs := [8]) (by kernel_rfl) (by simp) ?_
          refine AllE.cons (o := { dst := some 27, op := Go.Op.makeSlice 62 (Go.Operand.tmp 26) (Go.Operand.tmp 26), type := 62, pos := "verify.go:70", after := #[{ on := 7, ground := Go.Ground.data }, { on := 7, ground := Go.Ground.data }], guard := none }) rfl (fun KK hKK => ?_) AllE.nil
          · go_simp
            obtain ⟨V4, rs, hV, hbq, hMk, hBel, hsz4⟩ := mk1 n V3
            rw [← hV, ← hbq]
            have Hrs := Lib.hid hMk
            have HBel := Lib.hid hBel
            replace Hrh := Lib.hid (Hrh.out.below HBel.out)
            replace Hrg := Lib.hid (Hrg.out.below HBel.out)
            replace Hro := Lib.hid (Hro.out.below HBel.out)
            replace HB := Lib.hid (And.intro (HB.out.1.below HBel.out) (HB.out.2.trans (HBel.out.mono HB.out.2.size)))
            have hlo4 : rs = V3.heap.size := hbq
            have HLo4 := Lib.hid hlo4
            have hge4 : w.heap.size ≤ rs ∧ rs < V4.heap.size ∧ rh < rs ∧ rg < rs ∧ ro < rs := by omega
            have hws4 : w.heap.size ≤ V4.heap.size := by omega
            clear hV hbq hMk hBel HBel hlo4 HLo4 hsz4
            refine hKK.out _ _ (HHO.out _ HB.out.1) (fun hHeld => ?_)
            clear hKK KK
            try simp only [Act.put, List.setIfInBounds_toArray, List.set_cons_zero, List.set_cons_succ]
            refine AnyE.take2 (i := 15) [] (oi := { dst := some 34, op := Go.Op.build 120 #[(0, Go.Operand.tmp 19), (1, Go.Operand.tmp 20), (2, Go.Operand.tmp 21), (3, Go.Operand.tmp 24), (4, Go.Operand.tmp 27), (5, Go.Operand.tmp 30), (6, Go.Operand.tmp 33)], type := 120, pos := "verify.go:70", after := #[{ on := 0, ground := Go.Ground.data }, { on := 1, ground := Go.Ground.data }, { on := 2, ground := Go.Ground.data }, { on := 5, ground := Go.Ground.data }, { on := 8, ground := Go.Ground.data }, { on := 11, ground := Go.Ground.data }, { on := 14, ground := Go.Ground.data }], guard := none }) (v := ?_) rfl (by kernel_rfl) (by kernel_rfl) (by kernel_rfl) (by kernel_rfl) (fun _ _ _ h => h) (Or.inl ⟨by rfl, ?_⟩) (by assumption) ?_
            rotate_left
            · (intro w0 hSw; (try dsimp only at hSw); go_split_ands; go_simp; with_reducible rfl)
            try simp only [Act.put, List.setIfInBounds_toArray, List.set_cons_zero, List.set_cons_succ]
            refine AnyE.ready (rs := [16]) (by kernel_rfl) (by simp) ?_
            refine AllE.cons (o := { dst := some 35, op := Go.Op.box 120 (Go.Operand.tmp 34), type := 112, pos := "verify.go:70", after := #[{ on := 15, ground := Go.Ground.data }], guard := none }) rfl (fun KK hKK => ?_) AllE.nil
            go_simp
            have HQ := Lib.hid (HF0.out V4 ro rs rh rg Hro.out Hrs.out Hrh.out Hrg.out HB.out.2 (by omega) (by omega) (by omega) (by omega) (by omega))
            refine hKK.out _ _ (HHO.out _ (HB.out.1.alloc _)) (fun hHeld => ?_)
            clear hKK KK
            try simp only [Act.put, List.setIfInBounds_toArray, List.set_cons_zero, List.set_cons_succ]
            refine AnyE.ready (rs := [17]) (by kernel_rfl) (by simp) ?_
            refine AllE.last (o := { dst := some 8, op := Go.Op.assign (Go.Operand.tmp 35), type := 112, pos := "verify.go:70", after := #[{ on := 16, ground := Go.Ground.data }, { on := 0, ground := Go.Ground.phase }, { on := 1, ground := Go.Ground.phase }, { on := 2, ground := Go.Ground.phase }, { on := 3, ground := Go.Ground.phase }, { on := 4, ground := Go.Ground.phase }, { on := 5, ground := Go.Ground.phase }, { on := 6, ground := Go.Ground.phase }, { on := 7, ground := Go.Ground.phase }, { on := 8, ground := Go.Ground.phase }, { on := 9, ground := Go.Ground.phase }, { on := 10, ground := Go.Ground.phase }, { on := 11, ground := Go.Ground.phase }, { on := 12, ground := Go.Ground.phase }, { on := 13, ground := Go.Ground.phase }, { on := 14, ground := Go.Ground.phase }, { on := 15, ground := Go.Ground.phase }, { on := 16, ground := Go.Ground.phase }], guard := none }) rfl (by kernel_rfl) (fun KK hKK => ?_)
            go_simp
            refine hKK.out _ _ ?_
            clear hKK KK
            try simp only [Act.put, List.setIfInBounds_toArray, List.set_cons_zero, List.set_cons_succ]
            go_wp2_with fail
            obtain rfl := HN.out
            go_meet
            case rel => exact HQ.out
        · go_simp
          obtain ⟨V3, rs, hV, hbq, hMk, hBel, hsz3⟩ := mk1 n V2
          rw [← hV, ← hbq]
          have Hrs := Lib.hid hMk
          have HBel := Lib.hid hBel
          replace Hrh := Lib.hid (Hrh.out.below HBel.out)
          replace Hrg := Lib.hid (Hrg.out.below HBel.out)
          replace HB := Lib.hid (And.intro (HB.out.1.below HBel.out) (HB.out.2.trans (HBel.out.mono HB.out.2.size)))
          have hlo3 : rs = V2.heap.size := hbq
          have HLo3 := Lib.hid hlo3
          have hge3 : w.heap.size ≤ rs ∧ rs < V3.heap.size ∧ rh < rs ∧ rg < rs := by omega
          have hws3 : w.heap.size ≤ V3.heap.size := by omega
          clear hV hbq hMk hBel HBel hlo3 HLo3 hsz3
          refine hKK.out _ _ (HHO.out _ HB.out.1) (fun hHeld => ?_)
          clear hKK KK
          try simp only [Act.put, List.setIfInBounds_toArray, List.set_cons_zero, List.set_cons_succ]
          refine AnyE.ready (rs := [5]) (by kernel_rfl) (by simp) ?_
          refine AllE.cons (o := { dst := some 24, op := Go.Op.makeSlice 118 (Go.Operand.tmp 23) (Go.Operand.tmp 23), type := 118, pos := "verify.go:70", after := #[{ on := 4, ground := Go.Ground.data }, { on := 4, ground := Go.Ground.data }], guard := none }) rfl (fun KK hKK => ?_) AllE.nil
          · go_simp
            obtain ⟨V4, ro, hV, hbq, hMk, hBel, hsz4⟩ := mk0 n V3
            rw [← hV, ← hbq]
            have Hro := Lib.hid hMk
            have HBel := Lib.hid hBel
            replace Hrh := Lib.hid (Hrh.out.below HBel.out)
            replace Hrg := Lib.hid (Hrg.out.below HBel.out)
            replace Hrs := Lib.hid (Hrs.out.below HBel.out)
            replace HB := Lib.hid (And.intro (HB.out.1.below HBel.out) (HB.out.2.trans (HBel.out.mono HB.out.2.size)))
            have hlo4 : ro = V3.heap.size := hbq
            have HLo4 := Lib.hid hlo4
            have hge4 : w.heap.size ≤ ro ∧ ro < V4.heap.size ∧ rh < ro ∧ rg < ro ∧ rs < ro := by omega
            have hws4 : w.heap.size ≤ V4.heap.size := by omega
            clear hV hbq hMk hBel HBel hlo4 HLo4 hsz4
            refine hKK.out _ _ (HHO.out _ HB.out.1) (fun hHeld => ?_)
            clear hKK KK
            try simp only [Act.put, List.setIfInBounds_toArray, List.set_cons_zero, List.set_cons_succ]
            refine AnyE.take2 (i := 15) [] (oi := { dst := some 34, op := Go.Op.build 120 #[(0, Go.Operand.tmp 19), (1, Go.Operand.tmp 20), (2, Go.Operand.tmp 21), (3, Go.Operand.tmp 24), (4, Go.Operand.tmp 27), (5, Go.Operand.tmp 30), (6, Go.Operand.tmp 33)], type := 120, pos := "verify.go:70", after := #[{ on := 0, ground := Go.Ground.data }, { on := 1, ground := Go.Ground.data }, { on := 2, ground := Go.Ground.data }, { on := 5, ground := Go.Ground.data }, { on := 8, ground := Go.Ground.data }, { on := 11, ground := Go.Ground.data }, { on := 14, ground := Go.Ground.data }], guard := none }) (v := ?_) rfl (by kernel_rfl) (by kernel_rfl) (by kernel_rfl) (by kernel_rfl) (fun _ _ _ h => h) (Or.inl ⟨by rfl, ?_⟩) (by assumption) ?_
            rotate_left
            · (intro w0 hSw; (try dsimp only at hSw); go_split_ands; go_simp; with_reducible rfl)
            try simp only [Act.put, List.setIfInBounds_toArray, List.set_cons_zero, List.set_cons_succ]
            refine AnyE.ready (rs := [16]) (by kernel_rfl) (by simp) ?_
            refine AllE.cons (o := { dst := some 35, op := Go.Op.box 120 (Go.Operand.tmp 34), type := 112, pos := "verify.go:70", after := #[{ on := 15, ground := Go.Ground.data }], guard := none }) rfl (fun KK hKK => ?_) AllE.nil
            go_simp
            have HQ := Lib.hid (HF0.out V4 ro rs rh rg Hro.out Hrs.out Hrh.out Hrg.out HB.out.2 (by omega) (by omega) (by omega) (by omega) (by omega))
            refine hKK.out _ _ (HHO.out _ (HB.out.1.alloc _)) (fun hHeld => ?_)
            clear hKK KK
            try simp only [Act.put, List.setIfInBounds_toArray, List.set_cons_zero, List.set_cons_succ]
            refine AnyE.ready (rs := [17]) (by kernel_rfl) (by simp) ?_
            refine AllE.last (o := { dst := some 8, op := Go.Op.assign (Go.Operand.tmp 35), type := 112, pos := "verify.go:70", after := #[{ on := 16, ground := Go.Ground.data }, { on := 0, ground := Go.Ground.phase }, { on := 1, ground := Go.Ground.phase }, { on := 2, ground := Go.Ground.phase }, { on := 3, ground := Go.Ground.phase }, { on := 4, ground := Go.Ground.phase }, { on := 5, ground := Go.Ground.phase }, { on := 6, ground := Go.Ground.phase }, { on := 7, ground := Go.Ground.phase }, { on := 8, ground := Go.Ground.phase }, { on := 9, ground := Go.Ground.phase }, { on := 10, ground := Go.Ground.phase }, { on := 11, ground := Go.Ground.phase }, { on := 12, ground := Go.Ground.phase }, { on := 13, ground := Go.Ground.phase }, { on := 14, ground := Go.Ground.phase }, { on := 15, ground := Go.Ground.phase }, { on := 16, ground := Go.Ground.phase }], guard := none }) rfl (by kernel_rfl) (fun KK hKK => ?_)
            go_simp
            refine hKK.out _ _ ?_
            clear hKK KK
            try simp only [Act.put, List.setIfInBounds_toArray, List.set_cons_zero, List.set_cons_succ]
            go_wp2_with fail
            obtain rfl := HN.out
            go_meet
            case rel => exact HQ.out
    · go_simp
      obtain ⟨V1, rg, hV, hbq, hMk, hBel, hsz1⟩ := mk2 n V0
      rw [← hV, ← hbq]
      have Hrg := Lib.hid hMk
      have HBel := Lib.hid hBel
      replace HB := Lib.hid (And.intro (HB.out.1.below HBel.out) (HB.out.2.trans (HBel.out.mono HB.out.2.size)))
      have hlo1 : rg = V0.heap.size := hbq
      have HLo1 := Lib.hid hlo1
      have hge1 : w.heap.size ≤ rg ∧ rg < V1.heap.size := by omega
      have hws1 : w.heap.size ≤ V1.heap.size := by omega
      clear hV hbq hMk hBel HBel hlo1 HLo1 hsz1
      refine hKK.out _ _ (HHO.out _ HB.out.1) (fun hHeld => ?_)
      clear hKK KK
      try simp only [Act.put, List.setIfInBounds_toArray, List.set_cons_zero, List.set_cons_succ]
      refine AnyE.ready (rs := [5, 8, 11]) (by kernel_rfl) (by simp) ?_
      refine AllE.cons (o := { dst := some 24, op := Go.Op.makeSlice 118 (Go.Operand.tmp 23) (Go.Operand.tmp 23), type := 118, pos := "verify.go:70", after := #[{ on := 4, ground := Go.Ground.data }, { on := 4, ground := Go.Ground.data }], guard := none }) rfl (fun KK hKK => ?_) (AllE.cons (o := { dst := some 27, op := Go.Op.makeSlice 62 (Go.Operand.tmp 26) (Go.Operand.tmp 26), type := 62, pos := "verify.go:70", after := #[{ on := 7, ground := Go.Ground.data }, { on := 7, ground := Go.Ground.data }], guard := none }) rfl (fun KK hKK => ?_) (AllE.cons (o := { dst := some 30, op := Go.Op.makeSlice 63 (Go.Operand.tmp 29) (Go.Operand.tmp 29), type := 63, pos := "verify.go:70", after := #[{ on := 10, ground := Go.Ground.data }, { on := 10, ground := Go.Ground.data }], guard := none }) rfl (fun KK hKK => ?_) AllE.nil))
      · go_simp
        obtain ⟨V2, ro, hV, hbq, hMk, hBel, hsz2⟩ := mk0 n V1
        rw [← hV, ← hbq]
        have Hro := Lib.hid hMk
        have HBel := Lib.hid hBel
        replace Hrg := Lib.hid (Hrg.out.below HBel.out)
        replace HB := Lib.hid (And.intro (HB.out.1.below HBel.out) (HB.out.2.trans (HBel.out.mono HB.out.2.size)))
        have hlo2 : ro = V1.heap.size := hbq
        have HLo2 := Lib.hid hlo2
        have hge2 : w.heap.size ≤ ro ∧ ro < V2.heap.size ∧ rg < ro := by omega
        have hws2 : w.heap.size ≤ V2.heap.size := by omega
        clear hV hbq hMk hBel HBel hlo2 HLo2 hsz2
        refine hKK.out _ _ (HHO.out _ HB.out.1) (fun hHeld => ?_)
        clear hKK KK
        try simp only [Act.put, List.setIfInBounds_toArray, List.set_cons_zero, List.set_cons_succ]
        refine AnyE.ready (rs := [8, 11]) (by kernel_rfl) (by simp) ?_
        refine AllE.cons (o := { dst := some 27, op := Go.Op.makeSlice 62 (Go.Operand.tmp 26) (Go.Operand.tmp 26), type := 62, pos := "verify.go:70", after := #[{ on := 7, ground := Go.Ground.data }, { on := 7, ground := Go.Ground.data }], guard := none }) rfl (fun KK hKK => ?_) (AllE.cons (o := { dst := some 30, op := Go.Op.makeSlice 63 (Go.Operand.tmp 29) (Go.Operand.tmp 29), type := 63, pos := "verify.go:70", after := #[{ on := 10, ground := Go.Ground.data }, { on := 10, ground := Go.Ground.data }], guard := none }) rfl (fun KK hKK => ?_) AllE.nil)
        · go_simp
          obtain ⟨V3, rs, hV, hbq, hMk, hBel, hsz3⟩ := mk1 n V2
          rw [← hV, ← hbq]
          have Hrs := Lib.hid hMk
          have HBel := Lib.hid hBel
          replace Hrg := Lib.hid (Hrg.out.below HBel.out)
          replace Hro := Lib.hid (Hro.out.below HBel.out)
          replace HB := Lib.hid (And.intro (HB.out.1.below HBel.out) (HB.out.2.trans (HBel.out.mono HB.out.2.size)))
          have hlo3 : rs = V2.heap.size := hbq
          have HLo3 := Lib.hid hlo3
          have hge3 : w.heap.size ≤ rs ∧ rs < V3.heap.size ∧ rg < rs ∧ ro < rs := by omega
          have hws3 : w.heap.size ≤ V3.heap.size := by omega
          clear hV hbq hMk hBel HBel hlo3 HLo3 hsz3
          refine hKK.out _ _ (HHO.out _ HB.out.1) (fun hHeld => ?_)
          clear hKK KK
          try simp only [Act.put, List.setIfInBounds_toArray, List.set_cons_zero, List.set_cons_succ]
          refine AnyE.ready (rs := [11]) (by kernel_rfl) (by simp) ?_
          refine AllE.cons (o := { dst := some 30, op := Go.Op.makeSlice 63 (Go.Operand.tmp 29) (Go.Operand.tmp 29), type := 63, pos := "verify.go:70", after := #[{ on := 10, ground := Go.Ground.data }, { on := 10, ground := Go.Ground.data }], guard := none }) rfl (fun KK hKK => ?_) AllE.nil
          · go_simp
            obtain ⟨V4, rh, hV, hbq, hMk, hBel, hsz4⟩ := mk2 n V3
            rw [← hV, ← hbq]
            have Hrh := Lib.hid hMk
            have HBel := Lib.hid hBel
            replace Hrg := Lib.hid (Hrg.out.below HBel.out)
            replace Hro := Lib.hid (Hro.out.below HBel.out)
            replace Hrs := Lib.hid (Hrs.out.below HBel.out)
            replace HB := Lib.hid (And.intro (HB.out.1.below HBel.out) (HB.out.2.trans (HBel.out.mono HB.out.2.size)))
            have hlo4 : rh = V3.heap.size := hbq
            have HLo4 := Lib.hid hlo4
            have hge4 : w.heap.size ≤ rh ∧ rh < V4.heap.size ∧ rg < rh ∧ ro < rh ∧ rs < rh := by omega
            have hws4 : w.heap.size ≤ V4.heap.size := by omega
            clear hV hbq hMk hBel HBel hlo4 HLo4 hsz4
            refine hKK.out _ _ (HHO.out _ HB.out.1) (fun hHeld => ?_)
            clear hKK KK
            try simp only [Act.put, List.setIfInBounds_toArray, List.set_cons_zero, List.set_cons_succ]
            refine AnyE.take2 (i := 15) [] (oi := { dst := some 34, op := Go.Op.build 120 #[(0, Go.Operand.tmp 19), (1, Go.Operand.tmp 20), (2, Go.Operand.tmp 21), (3, Go.Operand.tmp 24), (4, Go.Operand.tmp 27), (5, Go.Operand.tmp 30), (6, Go.Operand.tmp 33)], type := 120, pos := "verify.go:70", after := #[{ on := 0, ground := Go.Ground.data }, { on := 1, ground := Go.Ground.data }, { on := 2, ground := Go.Ground.data }, { on := 5, ground := Go.Ground.data }, { on := 8, ground := Go.Ground.data }, { on := 11, ground := Go.Ground.data }, { on := 14, ground := Go.Ground.data }], guard := none }) (v := ?_) rfl (by kernel_rfl) (by kernel_rfl) (by kernel_rfl) (by kernel_rfl) (fun _ _ _ h => h) (Or.inl ⟨by rfl, ?_⟩) (by assumption) ?_
            rotate_left
            · (intro w0 hSw; (try dsimp only at hSw); go_split_ands; go_simp; with_reducible rfl)
            try simp only [Act.put, List.setIfInBounds_toArray, List.set_cons_zero, List.set_cons_succ]
            refine AnyE.ready (rs := [16]) (by kernel_rfl) (by simp) ?_
            refine AllE.cons (o := { dst := some 35, op := Go.Op.box 120 (Go.Operand.tmp 34), type := 112, pos := "verify.go:70", after := #[{ on := 15, ground := Go.Ground.data }], guard := none }) rfl (fun KK hKK => ?_) AllE.nil
            go_simp
            have HQ := Lib.hid (HF0.out V4 ro rs rh rg Hro.out Hrs.out Hrh.out Hrg.out HB.out.2 (by omega) (by omega) (by omega) (by omega) (by omega))
            refine hKK.out _ _ (HHO.out _ (HB.out.1.alloc _)) (fun hHeld => ?_)
            clear hKK KK
            try simp only [Act.put, List.setIfInBounds_toArray, List.set_cons_zero, List.set_cons_succ]
            refine AnyE.ready (rs := [17]) (by kernel_rfl) (by simp) ?_
            refine AllE.last (o := { dst := some 8, op := Go.Op.assign (Go.Operand.tmp 35), type := 112, pos := "verify.go:70", after := #[{ on := 16, ground := Go.Ground.data }, { on := 0, ground := Go.Ground.phase }, { on := 1, ground := Go.Ground.phase }, { on := 2, ground := Go.Ground.phase }, { on := 3, ground := Go.Ground.phase }, { on := 4, ground := Go.Ground.phase }, { on := 5, ground := Go.Ground.phase }, { on := 6, ground := Go.Ground.phase }, { on := 7, ground := Go.Ground.phase }, { on := 8, ground := Go.Ground.phase }, { on := 9, ground := Go.Ground.phase }, { on := 10, ground := Go.Ground.phase }, { on := 11, ground := Go.Ground.phase }, { on := 12, ground := Go.Ground.phase }, { on := 13, ground := Go.Ground.phase }, { on := 14, ground := Go.Ground.phase }, { on := 15, ground := Go.Ground.phase }, { on := 16, ground := Go.Ground.phase }], guard := none }) rfl (by kernel_rfl) (fun KK hKK => ?_)
            go_simp
            refine hKK.out _ _ ?_
            clear hKK KK
            try simp only [Act.put, List.setIfInBounds_toArray, List.set_cons_zero, List.set_cons_succ]
            go_wp2_with fail
            obtain rfl := HN.out
            go_meet
            case rel => exact HQ.out
        · go_simp
          obtain ⟨V3, rh, hV, hbq, hMk, hBel, hsz3⟩ := mk2 n V2
          rw [← hV, ← hbq]
          have Hrh := Lib.hid hMk
          have HBel := Lib.hid hBel
          replace Hrg := Lib.hid (Hrg.out.below HBel.out)
          replace Hro := Lib.hid (Hro.out.below HBel.out)
          replace HB := Lib.hid (And.intro (HB.out.1.below HBel.out) (HB.out.2.trans (HBel.out.mono HB.out.2.size)))
          have hlo3 : rh = V2.heap.size := hbq
          have HLo3 := Lib.hid hlo3
          have hge3 : w.heap.size ≤ rh ∧ rh < V3.heap.size ∧ rg < rh ∧ ro < rh := by omega
          have hws3 : w.heap.size ≤ V3.heap.size := by omega
          clear hV hbq hMk hBel HBel hlo3 HLo3 hsz3
          refine hKK.out _ _ (HHO.out _ HB.out.1) (fun hHeld => ?_)
          clear hKK KK
          try simp only [Act.put, List.setIfInBounds_toArray, List.set_cons_zero, List.set_cons_succ]
          refine AnyE.ready (rs := [8]) (by kernel_rfl) (by simp) ?_
          refine AllE.cons (o := { dst := some 27, op := Go.Op.makeSlice 62 (Go.Operand.tmp 26) (Go.Operand.tmp 26), type := 62, pos := "verify.go:70", after := #[{ on := 7, ground := Go.Ground.data }, { on := 7, ground := Go.Ground.data }], guard := none }) rfl (fun KK hKK => ?_) AllE.nil
          · go_simp
            obtain ⟨V4, rs, hV, hbq, hMk, hBel, hsz4⟩ := mk1 n V3
            rw [← hV, ← hbq]
            have Hrs := Lib.hid hMk
            have HBel := Lib.hid hBel
            replace Hrg := Lib.hid (Hrg.out.below HBel.out)
            replace Hro := Lib.hid (Hro.out.below HBel.out)
            replace Hrh := Lib.hid (Hrh.out.below HBel.out)
            replace HB := Lib.hid (And.intro (HB.out.1.below HBel.out) (HB.out.2.trans (HBel.out.mono HB.out.2.size)))
            have hlo4 : rs = V3.heap.size := hbq
            have HLo4 := Lib.hid hlo4
            have hge4 : w.heap.size ≤ rs ∧ rs < V4.heap.size ∧ rg < rs ∧ ro < rs ∧ rh < rs := by omega
            have hws4 : w.heap.size ≤ V4.heap.size := by omega
            clear hV hbq hMk hBel HBel hlo4 HLo4 hsz4
            refine hKK.out _ _ (HHO.out _ HB.out.1) (fun hHeld => ?_)
            clear hKK KK
            try simp only [Act.put, List.setIfInBounds_toArray, List.set_cons_zero, List.set_cons_succ]
            refine AnyE.take2 (i := 15) [] (oi := { dst := some 34, op := Go.Op.build 120 #[(0, Go.Operand.tmp 19), (1, Go.Operand.tmp 20), (2, Go.Operand.tmp 21), (3, Go.Operand.tmp 24), (4, Go.Operand.tmp 27), (5, Go.Operand.tmp 30), (6, Go.Operand.tmp 33)], type := 120, pos := "verify.go:70", after := #[{ on := 0, ground := Go.Ground.data }, { on := 1, ground := Go.Ground.data }, { on := 2, ground := Go.Ground.data }, { on := 5, ground := Go.Ground.data }, { on := 8, ground := Go.Ground.data }, { on := 11, ground := Go.Ground.data }, { on := 14, ground := Go.Ground.data }], guard := none }) (v := ?_) rfl (by kernel_rfl) (by kernel_rfl) (by kernel_rfl) (by kernel_rfl) (fun _ _ _ h => h) (Or.inl ⟨by rfl, ?_⟩) (by assumption) ?_
            rotate_left
            · (intro w0 hSw; (try dsimp only at hSw); go_split_ands; go_simp; with_reducible rfl)
            try simp only [Act.put, List.setIfInBounds_toArray, List.set_cons_zero, List.set_cons_succ]
            refine AnyE.ready (rs := [16]) (by kernel_rfl) (by simp) ?_
            refine AllE.cons (o := { dst := some 35, op := Go.Op.box 120 (Go.Operand.tmp 34), type := 112, pos := "verify.go:70", after := #[{ on := 15, ground := Go.Ground.data }], guard := none }) rfl (fun KK hKK => ?_) AllE.nil
            go_simp
            have HQ := Lib.hid (HF0.out V4 ro rs rh rg Hro.out Hrs.out Hrh.out Hrg.out HB.out.2 (by omega) (by omega) (by omega) (by omega) (by omega))
            refine hKK.out _ _ (HHO.out _ (HB.out.1.alloc _)) (fun hHeld => ?_)
            clear hKK KK
            try simp only [Act.put, List.setIfInBounds_toArray, List.set_cons_zero, List.set_cons_succ]
            refine AnyE.ready (rs := [17]) (by kernel_rfl) (by simp) ?_
            refine AllE.last (o := { dst := some 8, op := Go.Op.assign (Go.Operand.tmp 35), type := 112, pos := "verify.go:70", after := #[{ on := 16, ground := Go.Ground.data }, { on := 0, ground := Go.Ground.phase }, { on := 1, ground := Go.Ground.phase }, { on := 2, ground := Go.Ground.phase }, { on := 3, ground := Go.Ground.phase }, { on := 4, ground := Go.Ground.phase }, { on := 5, ground := Go.Ground.phase }, { on := 6, ground := Go.Ground.phase }, { on := 7, ground := Go.Ground.phase }, { on := 8, ground := Go.Ground.phase }, { on := 9, ground := Go.Ground.phase }, { on := 10, ground := Go.Ground.phase }, { on := 11, ground := Go.Ground.phase }, { on := 12, ground := Go.Ground.phase }, { on := 13, ground := Go.Ground.phase }, { on := 14, ground := Go.Ground.phase }, { on := 15, ground := Go.Ground.phase }, { on := 16, ground := Go.Ground.phase }], guard := none }) rfl (by kernel_rfl) (fun KK hKK => ?_)
            go_simp
            refine hKK.out _ _ ?_
            clear hKK KK
            try simp only [Act.put, List.setIfInBounds_toArray, List.set_cons_zero, List.set_cons_succ]
            go_wp2_with fail
            obtain rfl := HN.out
            go_meet
            case rel => exact HQ.out
      · go_simp
        obtain ⟨V2, rs, hV, hbq, hMk, hBel, hsz2⟩ := mk1 n V1
        rw [← hV, ← hbq]
        have Hrs := Lib.hid hMk
        have HBel := Lib.hid hBel
        replace Hrg := Lib.hid (Hrg.out.below HBel.out)
        replace HB := Lib.hid (And.intro (HB.out.1.below HBel.out) (HB.out.2.trans (HBel.out.mono HB.out.2.size)))
        have hlo2 : rs = V1.heap.size := hbq
        have HLo2 := Lib.hid hlo2
        have hge2 : w.heap.size ≤ rs ∧ rs < V2.heap.size ∧ rg < rs := by omega
        have hws2 : w.heap.size ≤ V2.heap.size := by omega
        clear hV hbq hMk hBel HBel hlo2 HLo2 hsz2
        refine hKK.out _ _ (HHO.out _ HB.out.1) (fun hHeld => ?_)
        clear hKK KK
        try simp only [Act.put, List.setIfInBounds_toArray, List.set_cons_zero, List.set_cons_succ]
        refine AnyE.ready (rs := [5, 11]) (by kernel_rfl) (by simp) ?_
        refine AllE.cons (o := { dst := some 24, op := Go.Op.makeSlice 118 (Go.Operand.tmp 23) (Go.Operand.tmp 23), type := 118, pos := "verify.go:70", after := #[{ on := 4, ground := Go.Ground.data }, { on := 4, ground := Go.Ground.data }], guard := none }) rfl (fun KK hKK => ?_) (AllE.cons (o := { dst := some 30, op := Go.Op.makeSlice 63 (Go.Operand.tmp 29) (Go.Operand.tmp 29), type := 63, pos := "verify.go:70", after := #[{ on := 10, ground := Go.Ground.data }, { on := 10, ground := Go.Ground.data }], guard := none }) rfl (fun KK hKK => ?_) AllE.nil)
        · go_simp
          obtain ⟨V3, ro, hV, hbq, hMk, hBel, hsz3⟩ := mk0 n V2
          rw [← hV, ← hbq]
          have Hro := Lib.hid hMk
          have HBel := Lib.hid hBel
          replace Hrg := Lib.hid (Hrg.out.below HBel.out)
          replace Hrs := Lib.hid (Hrs.out.below HBel.out)
          replace HB := Lib.hid (And.intro (HB.out.1.below HBel.out) (HB.out.2.trans (HBel.out.mono HB.out.2.size)))
          have hlo3 : ro = V2.heap.size := hbq
          have HLo3 := Lib.hid hlo3
          have hge3 : w.heap.size ≤ ro ∧ ro < V3.heap.size ∧ rg < ro ∧ rs < ro := by omega
          have hws3 : w.heap.size ≤ V3.heap.size := by omega
          clear hV hbq hMk hBel HBel hlo3 HLo3 hsz3
          refine hKK.out _ _ (HHO.out _ HB.out.1) (fun hHeld => ?_)
          clear hKK KK
          try simp only [Act.put, List.setIfInBounds_toArray, List.set_cons_zero, List.set_cons_succ]
          refine AnyE.ready (rs := [11]) (by kernel_rfl) (by simp) ?_
          refine AllE.cons (o := { dst := some 30, op := Go.Op.makeSlice 63 (Go.Operand.tmp 29) (Go.Operand.tmp 29), type := 63, pos := "verify.go:70", after := #[{ on := 10, ground := Go.Ground.data }, { on := 10, ground := Go.Ground.data }], guard := none }) rfl (fun KK hKK => ?_) AllE.nil
          · go_simp
            obtain ⟨V4, rh, hV, hbq, hMk, hBel, hsz4⟩ := mk2 n V3
            rw [← hV, ← hbq]
            have Hrh := Lib.hid hMk
            have HBel := Lib.hid hBel
            replace Hrg := Lib.hid (Hrg.out.below HBel.out)
            replace Hrs := Lib.hid (Hrs.out.below HBel.out)
            replace Hro := Lib.hid (Hro.out.below HBel.out)
            replace HB := Lib.hid (And.intro (HB.out.1.below HBel.out) (HB.out.2.trans (HBel.out.mono HB.out.2.size)))
            have hlo4 : rh = V3.heap.size := hbq
            have HLo4 := Lib.hid hlo4
            have hge4 : w.heap.size ≤ rh ∧ rh < V4.heap.size ∧ rg < rh ∧ rs < rh ∧ ro < rh := by omega
            have hws4 : w.heap.size ≤ V4.heap.size := by omega
            clear hV hbq hMk hBel HBel hlo4 HLo4 hsz4
            refine hKK.out _ _ (HHO.out _ HB.out.1) (fun hHeld => ?_)
            clear hKK KK
            try simp only [Act.put, List.setIfInBounds_toArray, List.set_cons_zero, List.set_cons_succ]
            refine AnyE.take2 (i := 15) [] (oi := { dst := some 34, op := Go.Op.build 120 #[(0, Go.Operand.tmp 19), (1, Go.Operand.tmp 20), (2, Go.Operand.tmp 21), (3, Go.Operand.tmp 24), (4, Go.Operand.tmp 27), (5, Go.Operand.tmp 30), (6, Go.Operand.tmp 33)], type := 120, pos := "verify.go:70", after := #[{ on := 0, ground := Go.Ground.data }, { on := 1, ground := Go.Ground.data }, { on := 2, ground := Go.Ground.data }, { on := 5, ground := Go.Ground.data }, { on := 8, ground := Go.Ground.data }, { on := 11, ground := Go.Ground.data }, { on := 14, ground := Go.Ground.data }], guard := none }) (v := ?_) rfl (by kernel_rfl) (by kernel_rfl) (by kernel_rfl) (by kernel_rfl) (fun _ _ _ h => h) (Or.inl ⟨by rfl, ?_⟩) (by assumption) ?_
            rotate_left
            · (intro w0 hSw; (try dsimp only at hSw); go_split_ands; go_simp; with_reducible rfl)
            try simp only [Act.put, List.setIfInBounds_toArray, List.set_cons_zero, List.set_cons_succ]
            refine AnyE.ready (rs := [16]) (by kernel_rfl) (by simp) ?_
            refine AllE.cons (o := { dst := some 35, op := Go.Op.box 120 (Go.Operand.tmp 34), type := 112, pos := "verify.go:70", after := #[{ on := 15, ground := Go.Ground.data }], guard := none }) rfl (fun KK hKK => ?_) AllE.nil
            go_simp
            have HQ := Lib.hid (HF0.out V4 ro rs rh rg Hro.out Hrs.out Hrh.out Hrg.out HB.out.2 (by omega) (by omega) (by omega) (by omega) (by omega))
            refine hKK.out _ _ (HHO.out _ (HB.out.1.alloc _)) (fun hHeld => ?_)
            clear hKK KK
            try simp only [Act.put, List.setIfInBounds_toArray, List.set_cons_zero, List.set_cons_succ]
            refine AnyE.ready (rs := [17]) (by kernel_rfl) (by simp) ?_
            refine AllE.last (o := { dst := some 8, op := Go.Op.assign (Go.Operand.tmp 35), type := 112, pos := "verify.go:70", after := #[{ on := 16, ground := Go.Ground.data }, { on := 0, ground := Go.Ground.phase }, { on := 1, ground := Go.Ground.phase }, { on := 2, ground := Go.Ground.phase }, { on := 3, ground := Go.Ground.phase }, { on := 4, ground := Go.Ground.phase }, { on := 5, ground := Go.Ground.phase }, { on := 6, ground := Go.Ground.phase }, { on := 7, ground := Go.Ground.phase }, { on := 8, ground := Go.Ground.phase }, { on := 9, ground := Go.Ground.phase }, { on := 10, ground := Go.Ground.phase }, { on := 11, ground := Go.Ground.phase }, { on := 12, ground := Go.Ground.phase }, { on := 13, ground := Go.Ground.phase }, { on := 14, ground := Go.Ground.phase }, { on := 15, ground := Go.Ground.phase }, { on := 16, ground := Go.Ground.phase }], guard := none }) rfl (by kernel_rfl) (fun KK hKK => ?_)
            go_simp
            refine hKK.out _ _ ?_
            clear hKK KK
            try simp only [Act.put, List.setIfInBounds_toArray, List.set_cons_zero, List.set_cons_succ]
            go_wp2_with fail
            obtain rfl := HN.out
            go_meet
            case rel => exact HQ.out
        · go_simp
          obtain ⟨V3, rh, hV, hbq, hMk, hBel, hsz3⟩ := mk2 n V2
          rw [← hV, ← hbq]
          have Hrh := Lib.hid hMk
          have HBel := Lib.hid hBel
          replace Hrg := Lib.hid (Hrg.out.below HBel.out)
          replace Hrs := Lib.hid (Hrs.out.below HBel.out)
          replace HB := Lib.hid (And.intro (HB.out.1.below HBel.out) (HB.out.2.trans (HBel.out.mono HB.out.2.size)))
          have hlo3 : rh = V2.heap.size := hbq
          have HLo3 := Lib.hid hlo3
          have hge3 : w.heap.size ≤ rh ∧ rh < V3.heap.size ∧ rg < rh ∧ rs < rh := by omega
          have hws3 : w.heap.size ≤ V3.heap.size := by omega
          clear hV hbq hMk hBel HBel hlo3 HLo3 hsz3
          refine hKK.out _ _ (HHO.out _ HB.out.1) (fun hHeld => ?_)
          clear hKK KK
          try simp only [Act.put, List.setIfInBounds_toArray, List.set_cons_zero, List.set_cons_succ]
          refine AnyE.ready (rs := [5]) (by kernel_rfl) (by simp) ?_
          refine AllE.cons (o := { dst := some 24, op := Go.Op.makeSlice 118 (Go.Operand.tmp 23) (Go.Operand.tmp 23), type := 118, pos := "verify.go:70", after := #[{ on := 4, ground := Go.Ground.data }, { on := 4, ground := Go.Ground.data }], guard := none }) rfl (fun KK hKK => ?_) AllE.nil
          · go_simp
            obtain ⟨V4, ro, hV, hbq, hMk, hBel, hsz4⟩ := mk0 n V3
            rw [← hV, ← hbq]
            have Hro := Lib.hid hMk
            have HBel := Lib.hid hBel
            replace Hrg := Lib.hid (Hrg.out.below HBel.out)
            replace Hrs := Lib.hid (Hrs.out.below HBel.out)
            replace Hrh := Lib.hid (Hrh.out.below HBel.out)
            replace HB := Lib.hid (And.intro (HB.out.1.below HBel.out) (HB.out.2.trans (HBel.out.mono HB.out.2.size)))
            have hlo4 : ro = V3.heap.size := hbq
            have HLo4 := Lib.hid hlo4
            have hge4 : w.heap.size ≤ ro ∧ ro < V4.heap.size ∧ rg < ro ∧ rs < ro ∧ rh < ro := by omega
            have hws4 : w.heap.size ≤ V4.heap.size := by omega
            clear hV hbq hMk hBel HBel hlo4 HLo4 hsz4
            refine hKK.out _ _ (HHO.out _ HB.out.1) (fun hHeld => ?_)
            clear hKK KK
            try simp only [Act.put, List.setIfInBounds_toArray, List.set_cons_zero, List.set_cons_succ]
            refine AnyE.take2 (i := 15) [] (oi := { dst := some 34, op := Go.Op.build 120 #[(0, Go.Operand.tmp 19), (1, Go.Operand.tmp 20), (2, Go.Operand.tmp 21), (3, Go.Operand.tmp 24), (4, Go.Operand.tmp 27), (5, Go.Operand.tmp 30), (6, Go.Operand.tmp 33)], type := 120, pos := "verify.go:70", after := #[{ on := 0, ground := Go.Ground.data }, { on := 1, ground := Go.Ground.data }, { on := 2, ground := Go.Ground.data }, { on := 5, ground := Go.Ground.data }, { on := 8, ground := Go.Ground.data }, { on := 11, ground := Go.Ground.data }, { on := 14, ground := Go.Ground.data }], guard := none }) (v := ?_) rfl (by kernel_rfl) (by kernel_rfl) (by kernel_rfl) (by kernel_rfl) (fun _ _ _ h => h) (Or.inl ⟨by rfl, ?_⟩) (by assumption) ?_
            rotate_left
            · (intro w0 hSw; (try dsimp only at hSw); go_split_ands; go_simp; with_reducible rfl)
            try simp only [Act.put, List.setIfInBounds_toArray, List.set_cons_zero, List.set_cons_succ]
            refine AnyE.ready (rs := [16]) (by kernel_rfl) (by simp) ?_
            refine AllE.cons (o := { dst := some 35, op := Go.Op.box 120 (Go.Operand.tmp 34), type := 112, pos := "verify.go:70", after := #[{ on := 15, ground := Go.Ground.data }], guard := none }) rfl (fun KK hKK => ?_) AllE.nil
            go_simp
            have HQ := Lib.hid (HF0.out V4 ro rs rh rg Hro.out Hrs.out Hrh.out Hrg.out HB.out.2 (by omega) (by omega) (by omega) (by omega) (by omega))
            refine hKK.out _ _ (HHO.out _ (HB.out.1.alloc _)) (fun hHeld => ?_)
            clear hKK KK
            try simp only [Act.put, List.setIfInBounds_toArray, List.set_cons_zero, List.set_cons_succ]
            refine AnyE.ready (rs := [17]) (by kernel_rfl) (by simp) ?_
            refine AllE.last (o := { dst := some 8, op := Go.Op.assign (Go.Operand.tmp 35), type := 112, pos := "verify.go:70", after := #[{ on := 16, ground := Go.Ground.data }, { on := 0, ground := Go.Ground.phase }, { on := 1, ground := Go.Ground.phase }, { on := 2, ground := Go.Ground.phase }, { on := 3, ground := Go.Ground.phase }, { on := 4, ground := Go.Ground.phase }, { on := 5, ground := Go.Ground.phase }, { on := 6, ground := Go.Ground.phase }, { on := 7, ground := Go.Ground.phase }, { on := 8, ground := Go.Ground.phase }, { on := 9, ground := Go.Ground.phase }, { on := 10, ground := Go.Ground.phase }, { on := 11, ground := Go.Ground.phase }, { on := 12, ground := Go.Ground.phase }, { on := 13, ground := Go.Ground.phase }, { on := 14, ground := Go.Ground.phase }, { on := 15, ground := Go.Ground.phase }, { on := 16, ground := Go.Ground.phase }], guard := none }) rfl (by kernel_rfl) (fun KK hKK => ?_)
            go_simp
            refine hKK.out _ _ ?_
            clear hKK KK
            try simp only [Act.put, List.setIfInBounds_toArray, List.set_cons_zero, List.set_cons_succ]
            go_wp2_with fail
            obtain rfl := HN.out
            go_meet
            case rel => exact HQ.out
      · go_simp
        obtain ⟨V2, rh, hV, hbq, hMk, hBel, hsz2⟩ := mk2 n V1
        rw [← hV, ← hbq]
        have Hrh := Lib.hid hMk
        have HBel := Lib.hid hBel
        replace Hrg := Lib.hid (Hrg.out.below HBel.out)
        replace HB := Lib.hid (And.intro (HB.out.1.below HBel.out) (HB.out.2.trans (HBel.out.mono HB.out.2.size)))
        have hlo2 : rh = V1.heap.size := hbq
        have HLo2 := Lib.hid hlo2
        have hge2 : w.heap.size ≤ rh ∧ rh < V2.heap.size ∧ rg < rh := by omega
        have hws2 : w.heap.size ≤ V2.heap.size := by omega
        clear hV hbq hMk hBel HBel hlo2 HLo2 hsz2
        refine hKK.out _ _ (HHO.out _ HB.out.1) (fun hHeld => ?_)
        clear hKK KK
        try simp only [Act.put, List.setIfInBounds_toArray, List.set_cons_zero, List.set_cons_succ]
        refine AnyE.ready (rs := [5, 8]) (by kernel_rfl) (by simp) ?_
        refine AllE.cons (o := { dst := some 24, op := Go.Op.makeSlice 118 (Go.Operand.tmp 23) (Go.Operand.tmp 23), type := 118, pos := "verify.go:70", after := #[{ on := 4, ground := Go.Ground.data }, { on := 4, ground := Go.Ground.data }], guard := none }) rfl (fun KK hKK => ?_) (AllE.cons (o := { dst := some 27, op := Go.Op.makeSlice 62 (Go.Operand.tmp 26) (Go.Operand.tmp 26), type := 62, pos := "verify.go:70", after := #[{ on := 7, ground := Go.Ground.data }, { on := 7, ground := Go.Ground.data }], guard := none }) rfl (fun KK hKK => ?_) AllE.nil)
        · go_simp
          obtain ⟨V3, ro, hV, hbq, hMk, hBel, hsz3⟩ := mk0 n V2
          rw [← hV, ← hbq]
          have Hro := Lib.hid hMk
          have HBel := Lib.hid hBel
          replace Hrg := Lib.hid (Hrg.out.below HBel.out)
          replace Hrh := Lib.hid (Hrh.out.below HBel.out)
          replace HB := Lib.hid (And.intro (HB.out.1.below HBel.out) (HB.out.2.trans (HBel.out.mono HB.out.2.size)))
          have hlo3 : ro = V2.heap.size := hbq
          have HLo3 := Lib.hid hlo3
          have hge3 : w.heap.size ≤ ro ∧ ro < V3.heap.size ∧ rg < ro ∧ rh < ro := by omega
          have hws3 : w.heap.size ≤ V3.heap.size := by omega
          clear hV hbq hMk hBel HBel hlo3 HLo3 hsz3
          refine hKK.out _ _ (HHO.out _ HB.out.1) (fun hHeld => ?_)
          clear hKK KK
          try simp only [Act.put, List.setIfInBounds_toArray, List.set_cons_zero, List.set_cons_succ]
          refine AnyE.ready (rs := [8]) (by kernel_rfl) (by simp) ?_
          refine AllE.cons (o := { dst := some 27, op := Go.Op.makeSlice 62 (Go.Operand.tmp 26) (Go.Operand.tmp 26), type := 62, pos := "verify.go:70", after := #[{ on := 7, ground := Go.Ground.data }, { on := 7, ground := Go.Ground.data }], guard := none }) rfl (fun KK hKK => ?_) AllE.nil
          · go_simp
            obtain ⟨V4, rs, hV, hbq, hMk, hBel, hsz4⟩ := mk1 n V3
            rw [← hV, ← hbq]
            have Hrs := Lib.hid hMk
            have HBel := Lib.hid hBel
            replace Hrg := Lib.hid (Hrg.out.below HBel.out)
            replace Hrh := Lib.hid (Hrh.out.below HBel.out)
            replace Hro := Lib.hid (Hro.out.below HBel.out)
            replace HB := Lib.hid (And.intro (HB.out.1.below HBel.out) (HB.out.2.trans (HBel.out.mono HB.out.2.size)))
            have hlo4 : rs = V3.heap.size := hbq
            have HLo4 := Lib.hid hlo4
            have hge4 : w.heap.size ≤ rs ∧ rs < V4.heap.size ∧ rg < rs ∧ rh < rs ∧ ro < rs := by omega
            have hws4 : w.heap.size ≤ V4.heap.size := by omega
            clear hV hbq hMk hBel HBel hlo4 HLo4 hsz4
            refine hKK.out _ _ (HHO.out _ HB.out.1) (fun hHeld => ?_)
            clear hKK KK
            try simp only [Act.put, List.setIfInBounds_toArray, List.set_cons_zero, List.set_cons_succ]
            refine AnyE.take2 (i := 15) [] (oi := { dst := some 34, op := Go.Op.build 120 #[(0, Go.Operand.tmp 19), (1, Go.Operand.tmp 20), (2, Go.Operand.tmp 21), (3, Go.Operand.tmp 24), (4, Go.Operand.tmp 27), (5, Go.Operand.tmp 30), (6, Go.Operand.tmp 33)], type := 120, pos := "verify.go:70", after := #[{ on := 0, ground := Go.Ground.data }, { on := 1, ground := Go.Ground.data }, { on := 2, ground := Go.Ground.data }, { on := 5, ground := Go.Ground.data }, { on := 8, ground := Go.Ground.data }, { on := 11, ground := Go.Ground.data }, { on := 14, ground := Go.Ground.data }], guard := none }) (v := ?_) rfl (by kernel_rfl) (by kernel_rfl) (by kernel_rfl) (by kernel_rfl) (fun _ _ _ h => h) (Or.inl ⟨by rfl, ?_⟩) (by assumption) ?_
            rotate_left
            · (intro w0 hSw; (try dsimp only at hSw); go_split_ands; go_simp; with_reducible rfl)
            try simp only [Act.put, List.setIfInBounds_toArray, List.set_cons_zero, List.set_cons_succ]
            refine AnyE.ready (rs := [16]) (by kernel_rfl) (by simp) ?_
            refine AllE.cons (o := { dst := some 35, op := Go.Op.box 120 (Go.Operand.tmp 34), type := 112, pos := "verify.go:70", after := #[{ on := 15, ground := Go.Ground.data }], guard := none }) rfl (fun KK hKK => ?_) AllE.nil
            go_simp
            have HQ := Lib.hid (HF0.out V4 ro rs rh rg Hro.out Hrs.out Hrh.out Hrg.out HB.out.2 (by omega) (by omega) (by omega) (by omega) (by omega))
            refine hKK.out _ _ (HHO.out _ (HB.out.1.alloc _)) (fun hHeld => ?_)
            clear hKK KK
            try simp only [Act.put, List.setIfInBounds_toArray, List.set_cons_zero, List.set_cons_succ]
            refine AnyE.ready (rs := [17]) (by kernel_rfl) (by simp) ?_
            refine AllE.last (o := { dst := some 8, op := Go.Op.assign (Go.Operand.tmp 35), type := 112, pos := "verify.go:70", after := #[{ on := 16, ground := Go.Ground.data }, { on := 0, ground := Go.Ground.phase }, { on := 1, ground := Go.Ground.phase }, { on := 2, ground := Go.Ground.phase }, { on := 3, ground := Go.Ground.phase }, { on := 4, ground := Go.Ground.phase }, { on := 5, ground := Go.Ground.phase }, { on := 6, ground := Go.Ground.phase }, { on := 7, ground := Go.Ground.phase }, { on := 8, ground := Go.Ground.phase }, { on := 9, ground := Go.Ground.phase }, { on := 10, ground := Go.Ground.phase }, { on := 11, ground := Go.Ground.phase }, { on := 12, ground := Go.Ground.phase }, { on := 13, ground := Go.Ground.phase }, { on := 14, ground := Go.Ground.phase }, { on := 15, ground := Go.Ground.phase }, { on := 16, ground := Go.Ground.phase }], guard := none }) rfl (by kernel_rfl) (fun KK hKK => ?_)
            go_simp
            refine hKK.out _ _ ?_
            clear hKK KK
            try simp only [Act.put, List.setIfInBounds_toArray, List.set_cons_zero, List.set_cons_succ]
            go_wp2_with fail
            obtain rfl := HN.out
            go_meet
            case rel => exact HQ.out
        · go_simp
          obtain ⟨V3, rs, hV, hbq, hMk, hBel, hsz3⟩ := mk1 n V2
          rw [← hV, ← hbq]
          have Hrs := Lib.hid hMk
          have HBel := Lib.hid hBel
          replace Hrg := Lib.hid (Hrg.out.below HBel.out)
          replace Hrh := Lib.hid (Hrh.out.below HBel.out)
          replace HB := Lib.hid (And.intro (HB.out.1.below HBel.out) (HB.out.2.trans (HBel.out.mono HB.out.2.size)))
          have hlo3 : rs = V2.heap.size := hbq
          have HLo3 := Lib.hid hlo3
          have hge3 : w.heap.size ≤ rs ∧ rs < V3.heap.size ∧ rg < rs ∧ rh < rs := by omega
          have hws3 : w.heap.size ≤ V3.heap.size := by omega
          clear hV hbq hMk hBel HBel hlo3 HLo3 hsz3
          refine hKK.out _ _ (HHO.out _ HB.out.1) (fun hHeld => ?_)
          clear hKK KK
          try simp only [Act.put, List.setIfInBounds_toArray, List.set_cons_zero, List.set_cons_succ]
          refine AnyE.ready (rs := [5]) (by kernel_rfl) (by simp) ?_
          refine AllE.cons (o := { dst := some 24, op := Go.Op.makeSlice 118 (Go.Operand.tmp 23) (Go.Operand.tmp 23), type := 118, pos := "verify.go:70", after := #[{ on := 4, ground := Go.Ground.data }, { on := 4, ground := Go.Ground.data }], guard := none }) rfl (fun KK hKK => ?_) AllE.nil
          · go_simp
            obtain ⟨V4, ro, hV, hbq, hMk, hBel, hsz4⟩ := mk0 n V3
            rw [← hV, ← hbq]
            have Hro := Lib.hid hMk
            have HBel := Lib.hid hBel
            replace Hrg := Lib.hid (Hrg.out.below HBel.out)
            replace Hrh := Lib.hid (Hrh.out.below HBel.out)
            replace Hrs := Lib.hid (Hrs.out.below HBel.out)
            replace HB := Lib.hid (And.intro (HB.out.1.below HBel.out) (HB.out.2.trans (HBel.out.mono HB.out.2.size)))
            have hlo4 : ro = V3.heap.size := hbq
            have HLo4 := Lib.hid hlo4
            have hge4 : w.heap.size ≤ ro ∧ ro < V4.heap.size ∧ rg < ro ∧ rh < ro ∧ rs < ro := by omega
            have hws4 : w.heap.size ≤ V4.heap.size := by omega
            clear hV hbq hMk hBel HBel hlo4 HLo4 hsz4
            refine hKK.out _ _ (HHO.out _ HB.out.1) (fun hHeld => ?_)
            clear hKK KK
            try simp only [Act.put, List.setIfInBounds_toArray, List.set_cons_zero, List.set_cons_succ]
            refine AnyE.take2 (i := 15) [] (oi := { dst := some 34, op := Go.Op.build 120 #[(0, Go.Operand.tmp 19), (1, Go.Operand.tmp 20), (2, Go.Operand.tmp 21), (3, Go.Operand.tmp 24), (4, Go.Operand.tmp 27), (5, Go.Operand.tmp 30), (6, Go.Operand.tmp 33)], type := 120, pos := "verify.go:70", after := #[{ on := 0, ground := Go.Ground.data }, { on := 1, ground := Go.Ground.data }, { on := 2, ground := Go.Ground.data }, { on := 5, ground := Go.Ground.data }, { on := 8, ground := Go.Ground.data }, { on := 11, ground := Go.Ground.data }, { on := 14, ground := Go.Ground.data }], guard := none }) (v := ?_) rfl (by kernel_rfl) (by kernel_rfl) (by kernel_rfl) (by kernel_rfl) (fun _ _ _ h => h) (Or.inl ⟨by rfl, ?_⟩) (by assumption) ?_
            rotate_left
            · (intro w0 hSw; (try dsimp only at hSw); go_split_ands; go_simp; with_reducible rfl)
            try simp only [Act.put, List.setIfInBounds_toArray, List.set_cons_zero, List.set_cons_succ]
            refine AnyE.ready (rs := [16]) (by kernel_rfl) (by simp) ?_
            refine AllE.cons (o := { dst := some 35, op := Go.Op.box 120 (Go.Operand.tmp 34), type := 112, pos := "verify.go:70", after := #[{ on := 15, ground := Go.Ground.data }], guard := none }) rfl (fun KK hKK => ?_) AllE.nil
            go_simp
            have HQ := Lib.hid (HF0.out V4 ro rs rh rg Hro.out Hrs.out Hrh.out Hrg.out HB.out.2 (by omega) (by omega) (by omega) (by omega) (by omega))
            refine hKK.out _ _ (HHO.out _ (HB.out.1.alloc _)) (fun hHeld => ?_)
            clear hKK KK
            try simp only [Act.put, List.setIfInBounds_toArray, List.set_cons_zero, List.set_cons_succ]
            refine AnyE.ready (rs := [17]) (by kernel_rfl) (by simp) ?_
            refine AllE.last (o := { dst := some 8, op := Go.Op.assign (Go.Operand.tmp 35), type := 112, pos := "verify.go:70", after := #[{ on := 16, ground := Go.Ground.data }, { on := 0, ground := Go.Ground.phase }, { on := 1, ground := Go.Ground.phase }, { on := 2, ground := Go.Ground.phase }, { on := 3, ground := Go.Ground.phase }, { on := 4, ground := Go.Ground.phase }, { on := 5, ground := Go.Ground.phase }, { on := 6, ground := Go.Ground.phase }, { on := 7, ground := Go.Ground.phase }, { on := 8, ground := Go.Ground.phase }, { on := 9, ground := Go.Ground.phase }, { on := 10, ground := Go.Ground.phase }, { on := 11, ground := Go.Ground.phase }, { on := 12, ground := Go.Ground.phase }, { on := 13, ground := Go.Ground.phase }, { on := 14, ground := Go.Ground.phase }, { on := 15, ground := Go.Ground.phase }, { on := 16, ground := Go.Ground.phase }], guard := none }) rfl (by kernel_rfl) (fun KK hKK => ?_)
            go_simp
            refine hKK.out _ _ ?_
            clear hKK KK
            try simp only [Act.put, List.setIfInBounds_toArray, List.set_cons_zero, List.set_cons_succ]
            go_wp2_with fail
            obtain rfl := HN.out
            go_meet
            case rel => exact HQ.out
  case rest =>
    obtain ⟨K, X, rfl, rfl, rfl, rfl, hKo, rfl, hfl⟩ := hcut
    have HK := Lib.hid hKo
    have HFl := Lib.hid hfl
    clear hfl hKo HF0 HB0 HMk
    have HRd := Lib.hid (readOps_c K HK.out X wc HFl.out ⟨by show K.P.cn K.m ≤ 5000; omega, HK.out.cap.d K.m hm, fun i hi => HK.out.fit.cd K.m i hm hi, HK.out.at'.d K.m hm⟩)
    have x0 : ∀ w : World, (Instr.index 149 (.agg #[.func (.func 93) #[] #[], .func (.func 94) #[] #[], .func (.func 95) #[] #[]]) (.int .i64 0)).run Try.prog w = .ok (.func (.func 93) #[] #[]) w := fun _ => by kernel_rfl
    have x1 : ∀ w : World, (Instr.index 149 (.agg #[.func (.func 93) #[] #[], .func (.func 94) #[] #[], .func (.func 95) #[] #[]]) (.int .i64 1)).run Try.prog w = .ok (.func (.func 94) #[] #[]) w := fun _ => by kernel_rfl
    have x2 : ∀ w : World, (Instr.index 149 (.agg #[.func (.func 93) #[] #[], .func (.func 94) #[] #[], .func (.func 95) #[] #[]]) (.int .i64 2)).run Try.prog w = .ok (.func (.func 95) #[] #[]) w := fun _ => by kernel_rfl
    obtain ⟨⟨p1, e1⟩, hr1⟩ : ∃ q, rdR K.n K.D = q := ⟨_, rfl⟩
    obtain ⟨⟨p2, e2⟩, hr2⟩ : ∃ q, chkR K.P K.m K.n K.D (inL (begs K.n K.D K.n 0)) = q := ⟨_, rfl⟩
    obtain ⟨⟨g3, p3, e3⟩, hr3⟩ : ∃ q, K.run = q := ⟨_, rfl⟩
    have HR1 := Lib.hid hr1
    have HR2 := Lib.hid hr2
    have HR3 := Lib.hid hr3
    clear hr1 hr2 hr3
    go_wp2_with fail
    refine wp_loop_rounds 4 ?_
    rw [rounds_succ]
    go_wp2_with fail
    refine HRd.out.mono ?_
    rintro e W1 ⟨rfl, hf1, hb1⟩
    rw [HR1.out]
    have HF1 := Lib.hid (And.intro hf1 hb1)
    clear hf1 hb1
    by_cases h1 : e1 = 0
    case neg =>
      have d1 : (e1 != 0) = true := by simpa using h1
      have HN1 := Lib.hid h1
      clear h1
      go_wp2
      go_ret3
      exact flowP_bad (flowR_1 HR1.out HN1.out) HN1.out HF1.out.2
    have d1 : (e1 != 0) = false := by simpa using h1
    have HZ1 := Lib.hid h1
    clear h1
    have HCk := Lib.hid (checkOps_c K HK.out _ _ X 0 W1 HF1.out.1 (fun k hk hO => opA_bd2 (fun i hi => HK.out.fit.cd K.m i hm hi) (begs_chain K.n K.D K.n 0 (by omega) k (inL_iff.1 hO)).2.1))
    go_wp2_with fail
    rw [rounds_succ]
    go_wp2_with fail
    refine HCk.out.mono ?_
    rintro e W2 ⟨rfl, hb2⟩
    rw [HR2.out]
    have HF2 := Lib.hid (HF1.out.1.below hb2)
    clear hb2 HF1
    by_cases h2 : e2 = 0
    case neg =>
      have d2 : (e2 != 0) = true := by simpa using h2
      have HN2 := Lib.hid h2
      clear h2
      go_wp2
      go_ret3
      exact flowP_bad (flowR_2 (HZ1.out ▸ HR1.out) HR2.out HN2.out) HN2.out HF2.out.b
    have d2 : (e2 != 0) = false := by simpa using h2
    have HZ2 := Lib.hid h2
    clear h2
    have HRd : Hid (Rdy K (inL (begs K.n K.D K.n 0)) ∧ Rdy2 K (inL (begs K.n K.D K.n 0)) ∧ inL (begs K.n K.D K.n 0) 0 = true) := Lib.hid (rdy_of (by show (rdR K.n K.D).2 = 0; rw [HR1.out]; exact HZ1.out) (by rw [HR2.out]; exact HZ2.out) HK.out.n0)
    have HGo := Lib.hid (goThrough_c K HK.out _ X W2 HF2.out HRd.out.1 HRd.out.2.1 HRd.out.2.2)
    go_wp2_with fail
    rw [rounds_succ]
    go_wp2_with fail
    refine HGo.out.mono ?_
    rintro e W3 ⟨X3, lo3, rfl, hf3, hr3⟩
    rw [HR3.out] at hf3
    rw [HR3.out]
    have HF3 := Lib.hid hf3
    clear hf3 hr3
    have HRR := Lib.hid (flowR_3 (P := K.P) (m := K.m) (HZ1.out ▸ HR1.out) (HZ2.out ▸ HR2.out) HR3.out)
    by_cases h3 : e3 = 0
    case neg =>
      have d3 : (e3 != 0) = true := by simpa using h3
      have HN3 := Lib.hid h3
      clear h3
      go_wp2
      go_ret3
      exact flowP_bad HRR.out.1 HN3.out HF3.out.b
    have d3 : (e3 != 0) = false := by simpa using h3
    have HZ3 := Lib.hid h3
    clear h3
    go_wp2_with fail
    rw [rounds_succ]
    go_wp2
    go_ret3
    exact flowP_ok HK.out (HZ3.out ▸ HRR.out.1) (HRR.out.2 ▸ HF3.out)
end Go.Proofs.Ytpiafgmncfibmaa.Vf
