import Derived.WalkLawsBesides
import Derived.IntWalk
import Derived.Deep.DrawnRows
import Derived.Test.YtpiafgmncfibmaaRs
import Derived.Test.YtpiafgmncfibmaaRc
import Derived.Test.YtpiafgmncfibmaaRows
import Derived.WalkKit
import Derived.ProofKit
import Derived.OpenShut
import Derived.Deep.QuietTactic
import Derived.BigQuiet
import Derived.Outline
import Derived.WalkSmall
import Derived.WalkLawsBesides
import Derived.WalkSpells
import Derived.BigGuardPart
import Derived.RegionTactic
import Derived.Deep.RegionHeld3
import Derived.Lib.Hide
import Derived.Deep.MidRow
import Derived.Below
import Derived.Deep.RegionWith
import Derived.Deep.OwnRows
import Derived.Deep.AppendLies
import Derived.Deep.RegionLaw
namespace Go.Proofs.Ytpiafgmncfibmaa
open Go.ChangeShapes Go.WideShapes Go.ChangeAt Go.RowKit
set_option linter.unusedVariables false

/-- The document's reader: at k, or what was wrong first. -/
structure R2 (S : Src) (x : Option (Nat × Int)) (k : Nat) (V : World) : Prop where
  b : Bw S V
  r : match x with
    | none => BoxT V S.R #[.slice S.a S.n S.c, .int .i64 k, .int .i64 0, .int .i64 0] 98
    | some (p, er) => er ≠ 0 ∧ ∃ k' : Int, BoxT V S.R #[.slice S.a S.n S.c, .int .i64 k', .int .i64 er, .int .i64 p] 98
theorem R2.keep {S : Src} {x : Option (Nat × Int)} {k : Nat} {V V' : World} (h : R2 S x k V) (hb : Bw S V') (kk : KeepT 98 V V') : R2 S x k V' := by
  refine ⟨hb, ?_⟩
  have hr := h.r
  cases x with
  | none => exact hr.keep kk
  | some pe =>
    obtain ⟨h1, k', h2⟩ := hr
    exact ⟨h1, k', h2.keep kk⟩
theorem R2.lt {S : Src} {x : Option (Nat × Int)} {k : Nat} {V : World} (h : R2 S x k V) : S.R < V.heap.size := by
  have hr := h.r
  cases x with
  | none => exact hr.lt
  | some pe => obtain ⟨_, _, h2⟩ := hr; exact h2.lt
theorem R2.alloc {S : Src} {x : Option (Nat × Int)} {k : Nat} {V : World} (h : R2 S x k V) (o : Obj) : R2 S x k (V.alloc o) := h.keep (h.b.alloc o) (.alloc _ _)
theorem R2.drew {S : Src} {x : Option (Nat × Int)} {k : Nat} {V : World} (h : R2 S x k V) : R2 S x k V.drew := h.keep h.b.drew (.drew _)
theorem R2.grown {S : Src} {x : Option (Nat × Int)} {k e : Nat} {V V' : World} {r : Option Nat} (h : R2 S x k V) (hg : V.grownBy V' r) (ht : ∀ g, r = some g → ∃ (C : Array Value) (f : Nat × Nat), V.heap[g]? = some (.cells C e f)) (he : e ≠ 98) (hb : ∀ g, r = some g → S.W.heap.size ≤ g) : R2 S x k V' :=
  h.keep (h.b.grown hg (fun g hg => .inr (hb g hg))) (.grown hg ht he)
theorem R2.set {S : Src} {x : Option (Nat × Int)} {k e b j : Nat} {V : World} {C : Array Value} (h : R2 S x k V) (hx : BoxT V b C e) (he : e ≠ 98) (hb : S.W.heap.size ≤ b) (v : Value) : R2 S x k (V.setCell ⟨b, j, none⟩ v) :=
  h.keep (h.b.set ⟨b, j, none⟩ v (.inr hb)) (.set hx he)
theorem r2_keep {S : Src} {x : Option (Nat × Int)} {k : Nat} {V V' : World} (h : R2 S x k V) (hg : V.grownBy V' (some S.R)) : ∀ e, 98 ≠ e → KeepT e V V' := fun e he => .grown hg (fun g hg => by
  obtain rfl := Option.some.inj hg
  have hr := h.r
  cases x with
  | none => exact ⟨_, _, hr⟩
  | some pe => obtain ⟨_, _, h2⟩ := hr; exact ⟨_, _, h2⟩) he
theorem r2_ok {S : Src} {k : Nat} {V : World} (h : R2 S none k V) : BoxT V S.R #[.slice S.a S.n S.c, .int .i64 k, .int .i64 0, .int .i64 0] 98 := h.r
theorem r2_y {S : Src} {k : Nat} {V : World} (h : R2 S none k V) : V.cell? ⟨S.R, 0, none⟩ = some (.slice S.a S.n S.c) ∧ V.cell? ⟨S.R, 1, none⟩ = some (.int .i64 k) ∧ V.cell? ⟨S.R, 2, none⟩ = some (.int .i64 0) ∧ V.cell? ⟨S.R, 3, none⟩ = some (.int .i64 0) ∧ V.frozen? ⟨S.R, 1, none⟩ = false ∧ V.frozen? ⟨S.R, 2, none⟩ = false ∧ V.frozen? ⟨S.R, 3, none⟩ = false :=
  (have hb := r2_ok h
   ⟨hb.cell 0, hb.cell 1, hb.cell 2, hb.cell 3, rowAt_frz hb.row 1, rowAt_frz hb.row 2, rowAt_frz hb.row 3⟩)
theorem r2_n {S : Src} {k p : Nat} {er : Int} {V : World} (h : R2 S (some (p, er)) k V) : V.cell? ⟨S.R, 2, none⟩ = some (.int .i64 er) ∧ (er == 0) = false ∧ (er != 0) = true ∧ V.cell? ⟨S.R, 3, none⟩ = some (.int .i64 p) := by
  obtain ⟨h1, k', h2⟩ := h.r
  exact ⟨h2.cell 2, by simpa using h1, by simpa using h1, h2.cell 3⟩
theorem r2_any {S : Src} {k k' p : Nat} {er : Int} {V : World} (h : R2 S (some (p, er)) k V) : R2 S (some (p, er)) k' V := ⟨h.b, h.r⟩
theorem failx_c (S : Src) (k p : Nat) (er : Int) (he : er ≠ 0) (w : World) (HR : Hid (R2 S none k w)) (k2 : Nat) : Calls Try.prog 47 #[.pointer (some ⟨S.R, 0, none⟩), .int .i64 er, .int .i64 p] w fun e w' => e = .returned (.tuple #[]) ∧ R2 S (some (p, er)) k2 w' ∧ w.grownBy w' (some S.R) := by
  obtain ⟨r0, r1, r2, r3, z1, z2, z3⟩ := r2_y HR.out
  clear r0 r1 z1
  go_enter Try.func47, Try.ntmps47
  go_wp2
  go_end0
  have hb := ((r2_ok HR.out).set 2 (.int .i64 er)).set 3 (.int .i64 p)
  have hg : w.grownBy ((w.setCell ⟨S.R, 2, none⟩ (.int .i64 er)).setCell ⟨S.R, 3, none⟩ (.int .i64 p)) (some S.R) := grown_trans (grown_set w ⟨S.R, 2, none⟩ (.int .i64 er)) (grown_set _ ⟨S.R, 3, none⟩ (.int .i64 p)) (.inl rfl)
  exact ⟨rfl, ⟨HR.out.b.grown hg (fun g hg => .inl (Option.some.inj hg).symm), he, _, hb⟩, hg⟩
theorem R2.drewN {S : Src} {x : Option (Nat × Int)} {k : Nat} {V : World} (h : R2 S x k V) (q : Nat) : R2 S x k (V.drewN q) := h.keep (h.b.drewN q) (.below (below_drewN (Below.refl _ _) q))
theorem grown_drewN (w : World) (q : Nat) (r : Option Nat) : w.grownBy (w.drewN q) r := grown_of_below (below_drewN (Below.refl _ _) q) r
theorem R2.next {S : Src} {k : Nat} {V : World} (h : R2 S none k V) : R2 S none (k + 1) (V.setCell ⟨S.R, 1, none⟩ (.int .i64 ((k : Int) + 1))) :=
  ⟨h.b.set _ _ (.inl rfl), (r2_ok h).set 1 _⟩
def OneR (S : Src) (x : Option (Nat × Int)) (k : Nat) (w : World) (e : Ending) (w' : World) : Prop :=
  ∃ v : Nat, e = .returned (.int .i64 v) ∧ v < 256 ∧ (x.or (nxE S.n S.d 0 anyB k) = none → v = S.d k) ∧ (x.or (nxE S.n S.d 0 anyB k) ≠ none → v = 0) ∧ R2 S (x.or (nxE S.n S.d 0 anyB k)) (k + 1) w' ∧ w.grownBy w' (some S.R)
set_option maxRecDepth 100000 in
set_option maxHeartbeats 2000000 in
theorem onex_c (S : Src) (HO : Hid (SrcOk S)) (x : Option (Nat × Int)) (k : Nat) (w : World) (HR : Hid (R2 S x k w)) : Calls Try.prog 46 #[.pointer (some ⟨S.R, 0, none⟩)] w (OneR S x k w) := by
  have hn : S.n ≤ 140737488355328 := HO.out.n
  cases x with
  | some pe =>
    obtain ⟨p, er⟩ := pe
    obtain ⟨r2, _, d2, _⟩ := r2_n HR.out
    go_enter Try.func46, Try.ntmps46
    go_wp2
    go_ret
    exact ⟨0, rfl, by decide, fun h => (nomatch h), fun _ => rfl, r2_any HR.out, grown_refl _ _⟩
  | none =>
    obtain ⟨r0, r1, r2, r3, z1, z2, z3⟩ := r2_y HR.out
    have HOr : Hid (∀ y : Option (Nat × Int), (none : Option (Nat × Int)).or y = y) := Lib.hid fun y => rfl
    by_cases hk : k < S.n
    · have hx : nxE S.n S.d 0 anyB k = none := nxE_ok hk rfl
      have hd := HO.out.d k hk
      obtain ⟨B, o, ha, hB, hc⟩ := HO.out.row.resolve_left (by omega)
      have hv : w.cell? ⟨B, o + k, none⟩ = some (.int .u8 (S.d k : Nat)) := (HR.out.b.cell hB _).trans (hc k hk)
      have hBR : B ≠ S.R := hB.2
      rw [ha] at r0
      have HX := Lib.hid hx
      clear hc hx r3 z2 z3
      have d1 : decide ((S.n : Int) ≤ (k : Int)) = false := decide_eq_false (by omega)
      have hs0 : IntKind.i64.wrap ((k : Int) + 1 - 1) = (k : Int) := by rw [IntKind.wrap_i64]; omega
      have hs1 : (k : Int) + 1 - 1 = (k : Int) := by omega
      have gk : (0 : Int) ≤ (k : Int) := by omega
      have gk2 : (k : Int) < (S.n : Int) := by omega
      obtain ⟨v, hv0⟩ : ∃ v, S.d k = v := ⟨_, rfl⟩
      have HV := Lib.hid hv0
      rw [hv0] at hv hd
      clear hv0 ha
      go_enter Try.func46, Try.ntmps46
      go_wp2
      go_quiet (fail)
      go_wp2
      go_quiet (fail)
      go_wp2
      go_ret
      have hx2 : (none : Option (Nat × Int)).or (nxE S.n S.d 0 anyB k) = none := HX.out
      refine ⟨v, rfl, hd, fun _ => HV.out.symm, fun h => absurd hx2 h, by rw [hx2]; exact ((HR.out.drewN _).next).drewN _, ?_⟩
      exact grown_trans (grown_trans (grown_drewN w _ (some S.R)) (grown_set _ ⟨S.R, 1, none⟩ _) (.inl rfl)) (grown_drewN _ _ (some S.R)) (.inl rfl)
    · have hx : nxE S.n S.d 0 anyB k = some (S.n, 6) := nxE_short (by omega)
      have d1 : decide ((S.n : Int) ≤ (k : Int)) = true := decide_eq_true (by omega)
      have HX := Lib.hid hx
      clear hx
      go_enter Try.func46, Try.ntmps46
      go_wp2
      go_quiet (fail)
      go_wp2_with fail
      refine (failx_c S k S.n 6 (by decide) _ (Lib.hid (HR.out.drewN _)) (k + 1)).mono ?_
      rintro e w' ⟨rfl, hr, hg⟩
      have HR' := Lib.hid hr
      have HG := Lib.hid (grown_trans (grown_drewN w _ (some S.R)) hg (.inl rfl))
      clear hr hg r0 r1 r2 r3 z1 z2 z3
      have hx2 : Hid ((none : Option (Nat × Int)).or (nxE S.n S.d 0 anyB k) = some (S.n, 6)) := Lib.hid HX.out
      go_wp2
      go_ret
      exact ⟨0, rfl, by decide, fun h => (by rw [hx2.out] at h; cases h), fun _ => rfl, by rw [hx2.out]; exact HR'.out, HG.out⟩
/-- A test that was missed is told as a look. -/
theorem or_x {x y : Option (Nat × Int)} : x.or y = none → x = none ∧ y = none := Option.or_eq_none_iff.1
def CntR (S : Src) (m : Int) (x : Option (Nat × Int)) (k : Nat) (w : World) (e : Ending) (w' : World) : Prop :=
  ∃ v : Nat, e = .returned (.int .i64 v) ∧ v < 256 ∧ (x.or (nxE S.n S.d 2 (leB m) k) = none → v = S.d k) ∧ (x.or (nxE S.n S.d 2 (leB m) k) ≠ none → v = 0) ∧ R2 S (x.or (nxE S.n S.d 2 (leB m) k)) (k + 1) w' ∧ w.grownBy w' (some S.R)
set_option maxRecDepth 100000 in
set_option maxHeartbeats 2000000 in
theorem cntx_c (S : Src) (HO : Hid (SrcOk S)) (m : Int) (hm0 : 0 ≤ m) (hm1 : m ≤ 1000) (x : Option (Nat × Int)) (k : Nat) (w : World) (HR : Hid (R2 S x k w)) : Calls Try.prog 48 #[.pointer (some ⟨S.R, 0, none⟩), .int .i64 m] w (CntR S m x k w) := by
  go_enter Try.func48, Try.ntmps48
  go_wp2_with fail
  refine (onex_c S HO x k w HR).mono ?_
  rintro e w1 ⟨v, rfl, hv, hv1, hv2, hr, hg⟩
  have HV1 := Lib.hid hv1
  have HV2 := Lib.hid hv2
  have HR1 := Lib.hid hr
  have HG1 := Lib.hid hg
  clear hv1 hv2 hr hg
  by_cases hvm : (v : Int) ≤ m
  · have d1 : decide (m < (v : Int)) = false := decide_eq_false (by omega)
    have HE : Hid (x.or (nxE S.n S.d 2 (leB m) k) = x.or (nxE S.n S.d 0 anyB k)) := Lib.hid (by
      cases x with
      | some pe => rfl
      | none =>
        show nxE S.n S.d 2 (leB m) k = nxE S.n S.d 0 anyB k
        by_cases hk : k < S.n
        · have h0 : nxE S.n S.d 0 anyB k = none := nxE_ok hk rfl
          rw [h0]
          refine nxE_ok hk ?_
          rw [← HV1.out (show (none : Option (Nat × Int)).or _ = none from h0)]
          exact decide_eq_true hvm
        · rw [nxE_short (by omega), nxE_short (by omega)])
    go_wp2
    go_ret
    exact ⟨v, rfl, hv, fun h => HV1.out (by rw [← HE.out]; exact h), fun h => HV2.out (by rw [← HE.out]; exact h), by rw [HE.out]; exact HR1.out, HG1.out⟩
  · have d1 : decide (m < (v : Int)) = true := decide_eq_true (by omega)
    have hxn : x.or (nxE S.n S.d 0 anyB k) = none := by
      cases hx : x.or (nxE S.n S.d 0 anyB k) with
      | none => rfl
      | some pe => have := HV2.out (by rw [hx]; simp); omega
    have hdv := HV1.out hxn
    obtain ⟨hx1, hx2⟩ := or_x hxn
    have HE : Hid (x.or (nxE S.n S.d 2 (leB m) k) = some (k, 2)) := Lib.hid (by
      rw [hx1]
      show nxE S.n S.d 2 (leB m) k = _
      exact nxE_bad (nxE_none hx2).1 (by rw [← hdv]; exact decide_eq_false hvm))
    have hkn : k < S.n := (nxE_none hx2).1
    have hSn : S.n ≤ 140737488355328 := HO.out.n
    have HR2 : Hid (R2 S none (k + 1) w1) := Lib.hid (by have h9 := HR1.out; rw [hxn] at h9; exact h9)
    obtain ⟨r0, r1, r2, r3, z1, z2, z3⟩ := r2_y HR2.out
    have hs : (((k + 1 : Nat) : Int)) - 1 = (k : Int) := by omega
    clear hxn hdv hx1 hx2 HR1 r0 r2 r3 z1 z2 z3
    go_wp2_with fail
    refine (failx_c S (k + 1) k 2 (by decide) _ HR2 (k + 1)).mono ?_
    rintro e w' ⟨rfl, hr, hg⟩
    have HR' := Lib.hid hr
    have HG := Lib.hid (grown_trans HG1.out hg (.inl rfl))
    clear hr hg r1 hs
    go_wp2
    go_ret
    exact ⟨0, rfl, by decide, fun h => (by rw [HE.out] at h; cases h), fun _ => rfl, by rw [HE.out]; exact HR'.out, HG.out⟩
theorem or_someR {x y : Option (Nat × Int)} {pe : Nat × Int} (h : x = none) (h2 : y = some pe) : x.or y = some pe := by rw [h]; exact h2
def AnyS (v : Value) : Prop := ∃ a n c, v = .slice a n c
/-- A row of types while it is read: right so far, or what was wrong. -/
def TyS (S : Src) (w : World) (x : Option (Nat × Int)) (k m j : Nat) (V : Value) (wr : World) : Prop :=
  ((x.or (tysE S.n S.d k j) = none ∧ R2 S none (k + j) wr ∧ wr.ownsRow w.heap.size 3 1 V j (els1 j fun i => .int .i64 (S.d (k + i) : Nat))) ∨
   (∃ pe, x.or (tysE S.n S.d k m) = some pe ∧ R2 S (some pe) 0 wr ∧ AnyS V)) ∧ w.grownBy wr (some S.R)
def TysR (S : Src) (x : Option (Nat × Int)) (k m : Nat) (w : World) (e : Ending) (w' : World) : Prop :=
  ∃ a m' c, e = .returned (.slice a m' c) ∧ (x.or (tysE S.n S.d k m) = none → m' = m ∧ w'.ownsRow w.heap.size 3 1 (.slice a m c) m (els1 m fun i => .int .i64 (S.d (k + i) : Nat))) ∧ R2 S (x.or (tysE S.n S.d k m)) (k + m) w' ∧ w.grownBy w' (some S.R)
theorem own_r {V V' : World} {B e s n R : Nat} {v : Value} {xs : List Value} (h : V.ownsRow B e s v n xs) (hg : V.grownBy V' (some R)) (hl : R < B) : V'.ownsRow B e s v n xs :=
  own_blk h fun g hg' hlt => hg.block g hlt (fun e => by obtain rfl := Option.some.inj e; have := own_base h _ hg'; omega)
theorem R2.app {S : Src} {w W1 W5 : World} {x : Option (Nat × Int)} {k e s n lo : Nat} {V : Value} {xs : List Value} {o : Obj} (h : R2 S x k W1) (hl : S.W.heap.size ≤ w.heap.size) (hlo : w.heap.size ≤ lo) (hown : W1.ownsRow lo e s V n xs) (he : e ≠ 98) (hgrow : (W1.alloc o).grownBy W5 V.ownBlock) (hg : w.grownBy W1 (some S.R)) : R2 S x k W5 ∧ w.grownBy W5 (some S.R) :=
  (have ho := own_keep hown (KeepT.alloc W1 o)
   ⟨(h.alloc o).grown hgrow (own_typed ho) he (fun g hg' => by have := own_base ho g hg'; omega), grown_own (grown_trans hg (grown_alloc W1 o (some S.R)) (.inl rfl)) hgrow (fun g hg' => by have := own_base ho g hg'; omega)⟩)
set_option maxRecDepth 100000 in
set_option maxHeartbeats 4000000 in
theorem tysx_c (S : Src) (HO : Hid (SrcOk S)) (x : Option (Nat × Int)) (m : Nat) (hm : m ≤ 70000) (k : Nat) (w : World) (HR : Hid (R2 S x k w)) :
    Calls Try.prog 83 #[.pointer (some ⟨S.R, 0, none⟩), .int .i64 m] w (TysR S x k m w) := by
  obtain ⟨ii, hi, iz0, iz1, iz2⟩ := info_parts info3x
  have HW := Lib.hid HR.out.b.size
  have hSn : S.n ≤ 140737488355328 := HO.out.n
  have HL := Lib.hid HR.out.lt
  go_enter Try.func83, Try.ntmps83
  go_wp2
  go_loopw [6, 5] (fun ix v wr => ∃ (j : Nat) (V : Value), j ≤ m ∧ ix = .int .i64 j ∧ V = v ∧ Hid (TyS S w x k m j V wr)) (fun ix _ _ => m - (intOf ix).toNat)
  case atStart =>
    refine ⟨0, _, by omega, rfl, rfl, Lib.hid ⟨?_, grown_refl _ _⟩⟩
    cases x with
    | none => exact .inl ⟨rfl, HR.out, ⟨rfl, .inl ⟨rfl, rfl⟩⟩⟩
    | some pe => exact .inr ⟨pe, rfl, r2_any HR.out, ⟨_, _, _, rfl⟩⟩
  case round =>
    obtain ⟨j, V, hj, rfl, rfl, HQ⟩ := hrel
    rcases HQ.out.1 with ⟨h1, h2, h3⟩ | ⟨⟨p, er⟩, h1, h2, a, n', c, rfl⟩
    · have H1 := Lib.hid h1
      have H2 := Lib.hid h2
      have H3 := Lib.hid h3
      clear h1 h2 h3
      obtain ⟨r0, r1, r2, r3, z1, z2, z3⟩ := r2_y H2.out
      clear r0 r1 r3 z1 z2 z3
      by_cases hjm : j < m
      · have gj : (j : Int) < m := by omega
        go_wp2_with fail
        clear r2
        refine (onex_c S HO none (k + j) _ H2).mono ?_
        rintro e w1 ⟨v, rfl, hv, hv1, hv2, hr, hg⟩
        obtain ⟨hx0, hx1⟩ := or_x H1.out
        have H3a := Lib.hid (own_r H3.out hg HL.out)
        have HG1 := Lib.hid (grown_trans HQ.out.2 hg (.inl rfl))
        have hsz : w.heap.size ≤ w1.heap.size := HG1.out.size
        have HAp : Hid (∀ W1 : World, W1.ownsRow w.heap.size 3 1 V j (els1 j fun i => .int .i64 (S.d (k + i) : Nat)) → ∀ y : Value, (W1.alloc (.cells #[y] 3)).ownsRow w.heap.size 3 1 V j (els1 j fun i => .int .i64 (S.d (k + i) : Nat))) := Lib.hid fun W1 h y => own_keep h (.alloc W1 _)
        by_cases hkn : k + j < S.n
        · have hn0 : nxE S.n S.d 0 anyB (k + j) = none := nxE_ok hkn rfl
          have hvd := hv1 (show (none : Option (Nat × Int)).or _ = none from hn0)
          have HR1 : Hid (R2 S none (k + j + 1) w1) := Lib.hid (by have h9 := hr; rw [show (none : Option (Nat × Int)).or (nxE S.n S.d 0 anyB (k + j)) = none from hn0] at h9; exact h9)
          have HVD := Lib.hid hvd
          have HX0 := Lib.hid hx0
          have HX1 := Lib.hid hx1
          clear hr hg hv1 hv2 hn0 hvd hx0 hx1
          obtain ⟨r0, r1, r2, r3, z1, z2, z3⟩ := r2_y HR1.out
          clear r0 r3 z1 z2 z3
          obtain ⟨b, hb⟩ : ∃ b, isTB (v : Int) = b := ⟨_, rfl⟩
          have HB := Lib.hid hb
          have HVal : Hid (∀ W, Calls Try.prog 43 #[.int .i64 (v : Nat)] W fun e w' => e = .returned (.bool b) ∧ W = w') := Lib.hid fun W => hb ▸ rvalue_c (v : Int) W
          clear hb
          have hs : (((k + j + 1 : Nat) : Int)) - 1 = ((k + j : Nat) : Int) := by omega
          cases b with
          | true =>
            go_wp2_with (first | (go_at_call 43; (with_reducible refine (HVal.out _).mono ?_); rintro e w' ⟨rfl, rfl⟩) | (at_builtin; refine wpList_append_lies _ rfl _ _ 48 rfl w.heap.size 3 ii _ 1 8 Try.underlying48 hi iz0 iz1 iz2 rfl (by decide) V j (els1 j fun i => .int .i64 (S.d (k + i) : Nat)) rfl (HAp.out _ H3a.out _) ⟨w1.heap.size, 0, none⟩ 1 1 [.int .i64 (v : Nat)] rfl rfl (World.news_of_block (cs := #[.int .i64 (v : Nat)]) (t := 3) (fr := (0, 0)) (heap_alloc_new w1 _)) (by simp [Value.oneCell']) (by omega) (by unfold maxLen; omega) (by omega) (by simp; omega) (w1.heap.size + 1) (by simp) ?_; intro g cap w5 hown hgrow _ _))
            have hx2 : nxE S.n S.d 5 tyB (k + j) = none := nxE_ok hkn (by rw [← HVD.out]; exact HB.out)
            obtain ⟨q1, q2⟩ := HR1.out.app HW.out (Nat.le_refl _) H3a.out (by decide) hgrow HG1.out
            exact ⟨⟨j + 1, _, by omega, by go_num, rfl, Lib.hid ⟨.inl ⟨by rw [HX0.out]; exact firE_succ HX1.out hx2, q1, by rw [els1_snoc j _ _ (by rw [HVD.out])] at hown; exact hown⟩, q2⟩⟩, by simp [intOf]; omega⟩
          | false =>
            go_wp2_with (first | (go_at_call 43; (with_reducible refine (HVal.out _).mono ?_); rintro e w' ⟨rfl, rfl⟩) | (go_at_call 47; refine (failx_c S (k + j + 1) (k + j) 5 (by decide) _ HR1 0).mono ?_; rintro e w2 ⟨rfl, hr2, hg2⟩; have HR2 := Lib.hid hr2; have HG2 := Lib.hid (grown_trans HG1.out hg2 (.inl rfl)); have H3b := Lib.hid (own_r H3a.out hg2 HL.out); have hsz2 : w.heap.size ≤ w2.heap.size := HG2.out.size; clear hr2 hg2) | (at_builtin; refine wpList_append_lies _ rfl _ _ 48 rfl w.heap.size 3 ii _ 1 8 Try.underlying48 hi iz0 iz1 iz2 rfl (by decide) V j (els1 j fun i => .int .i64 (S.d (k + i) : Nat)) rfl (HAp.out _ H3b.out _) ⟨w2.heap.size, 0, none⟩ 1 1 [.int .i64 (v : Nat)] rfl rfl (World.news_of_block (cs := #[.int .i64 (v : Nat)]) (t := 3) (fr := (0, 0)) (heap_alloc_new w2 _)) (by simp [Value.oneCell']) (by omega) (by unfold maxLen; omega) (by omega) (by simp; omega) (w2.heap.size + 1) (by simp) ?_; intro g cap w5 hown hgrow _ _))
            have hx2 : nxE S.n S.d 5 tyB (k + j) = some (k + j, 5) := nxE_bad hkn (by rw [← HVD.out]; exact HB.out)
            obtain ⟨q1, q2⟩ := HR2.out.app HW.out (Nat.le_refl _) H3b.out (by decide) hgrow HG2.out
            exact ⟨⟨j + 1, _, by omega, by go_num, rfl, Lib.hid ⟨.inr ⟨_, by rw [HX0.out]; exact firE_at HX1.out hx2 hjm, q1, ⟨_, _, _, rfl⟩⟩, q2⟩⟩, by simp [intOf]; omega⟩
        · have hn0 : nxE S.n S.d 0 anyB (k + j) = some (S.n, 6) := nxE_short (by omega)
          have HR1 : Hid (R2 S (some (S.n, 6)) (k + j + 1) w1) := Lib.hid (by have h9 := hr; rw [show (none : Option (Nat × Int)).or (nxE S.n S.d 0 anyB (k + j)) = some (S.n, 6) from hn0] at h9; exact h9)
          have HX0 := Lib.hid hx0
          have HX1 := Lib.hid hx1
          clear hr hg hv1 hv2 hn0 hx0 hx1
          obtain ⟨r2, d2, _, _⟩ := r2_n HR1.out
          go_wp2_with (at_builtin; refine wpList_append_lies _ rfl _ _ 48 rfl w.heap.size 3 ii _ 1 8 Try.underlying48 hi iz0 iz1 iz2 rfl (by decide) V j (els1 j fun i => .int .i64 (S.d (k + i) : Nat)) rfl (HAp.out _ H3a.out _) ⟨w1.heap.size, 0, none⟩ 1 1 [.int .i64 (v : Nat)] rfl rfl (World.news_of_block (cs := #[.int .i64 (v : Nat)]) (t := 3) (fr := (0, 0)) (heap_alloc_new w1 _)) (by simp [Value.oneCell']) (by omega) (by unfold maxLen; omega) (by omega) (by simp; omega) (w1.heap.size + 1) (by simp) ?_; intro g cap w5 hown hgrow _ _)
          have hx2 : nxE S.n S.d 5 tyB (k + j) = some (S.n, 6) := nxE_short (by omega)
          obtain ⟨q1, q2⟩ := (r2_any (k' := 0) HR1.out).app HW.out (Nat.le_refl _) H3a.out (by decide) hgrow HG1.out
          exact ⟨⟨j + 1, _, by omega, by go_num, rfl, Lib.hid ⟨.inr ⟨_, by rw [HX0.out]; exact firE_at HX1.out hx2 hjm, q1, ⟨_, _, _, rfl⟩⟩, q2⟩⟩, by simp [intOf]; omega⟩
      · obtain rfl : m = j := by omega
        go_wp2
        go_ret
        obtain ⟨a, c, hv⟩ := own_slice H3.out
        exact ⟨a, m, c, (by rw [hv]; rfl), fun _ => ⟨rfl, hv ▸ H3.out⟩, by rw [H1.out]; exact H2.out, HQ.out.2⟩
    · have H1 := Lib.hid h1
      obtain ⟨r2, d2, _, _⟩ := r2_n h2
      have H2 := Lib.hid h2
      clear h1 h2
      by_cases hjm : j < m
      · have gj : (j : Int) < m := by omega
        go_wp2
        go_ret
        exact ⟨a, n', c, rfl, fun h => (by rw [H1.out] at h; cases h), by rw [H1.out]; exact r2_any H2.out, HQ.out.2⟩
      · obtain rfl : m = j := by omega
        go_wp2
        go_ret
        exact ⟨a, n', c, rfl, fun h => (by rw [H1.out] at h; cases h), by rw [H1.out]; exact r2_any H2.out, HQ.out.2⟩
end Go.Proofs.Ytpiafgmncfibmaa
