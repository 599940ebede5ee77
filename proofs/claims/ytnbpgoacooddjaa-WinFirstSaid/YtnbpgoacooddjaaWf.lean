import Derived.WalkKit
import Derived.ProofKit
import Derived.OpenShut
import Derived.Deep.QuietTactic
import Derived.BigQuiet
import Derived.Outline
import Derived.WalkSmall
import Derived.WalkLawsBesides
import Derived.WalkSpells
import Derived.BigGuardPart
import Derived.RegionTactic
import Derived.Deep.RegionHeld3
import Derived.Lib.Hide
import Derived.Deep.MidRow
import Derived.Below
import Derived.Deep.RegionWith
import Derived.Deep.OwnRows
import Derived.Deep.AppendLies
import Derived.Deep.RegionLaw
import Derived.Laws.BitsAllLaws
import Derived.Laws.BitsLemmas
import Derived.Deep.CutBlock
import Derived.Deep.DeepCutAuto
import Derived.Deep.CutRange
import Derived.Test.YtnbpgoacooddjaaWe
namespace Go.Proofs.Ytnbpgoacooddjaa
open Go.ChangeShapes Go.WideShapes Go.ChangeAt Go.RowKit
set_option linter.unusedVariables false
attribute [local go_sem] rowAt_drew rowAt_drewN
def FwdP (o : Option Nat) (w : World) (e : Ending) (w' : World) : Prop := e = .returned (.tuple #[.int .i64 (o.getD 0 : Nat), .bool o.isSome]) ∧ Below w.heap.size w w'
theorem WI.one (I : WI) : I.arr.all (·.oneCell') = true := by
  unfold WI.arr
  rw [Array.all_append, I.r.one]
  simp [Value.oneCell']
structure FwS (w : World) (VA : Array Value) (W : World) : Prop where
  v : rowAt W w.heap.size = some VA
  l : Below w.heap.size w W
theorem vwl {w W : World} {VA : Array Value} {b off n cap g m : Nat} {r : Rg} (h : VA = vwA b off n cap r g m) (hS : FwS w VA W) : (Instr.loadAt 126 (.pointer (some ⟨w.heap.size, 0, none⟩))).run Try.prog W = .ok (.agg VA) W := by
  have := hS.v
  rw [h] at this ⊢
  exact vw_all this
set_option maxRecDepth 100000 in
set_option maxHeartbeats 8000000 in
theorem forward_c (F : Nat → WI) (r : Rg) (b off n cap g m i : Nat) (w : World) (HW : Hid (WnC w b off n F)) (HO : Hid (OutC fOf F w g m)) (hr : r.within) (hF : ∀ j, j < n → (F j).r.within) (hi : i ≤ m) (hin : i < n) (hm : m ≤ n) (hn : n ≤ 1000000) :
    Calls Try.prog 77 #[.agg (vwA b off n cap r g m), .int .i64 i] w (FwdP (fwdS fOf F r i) w) := by
  obtain ⟨VA, hVA⟩ : ∃ VA, VA = vwA b off n cap r g m := ⟨_, rfl⟩
  rw [← hVA]
  have HVA := Lib.hid hVA
  clear hVA
  have HB : Hid (rowAt (w.alloc (.cells VA 126)) w.heap.size = some VA) := Lib.hid (rowAt_new _ _ _)
  have HL : Hid (Below w.heap.size w (w.alloc (.cells VA 126))) := Lib.hid ((Below.refl _ _).alloc (Nat.le_refl _) _)
  have HW1 := Lib.hid (HW.out.below HL.out)
  have hva0 : VA[0]? = some (.slice (some ⟨b, off, none⟩) n cap) := by rw [HVA.out]; exact vwA_0 _ _ _ _ _ _ _
  have HVA0 := Lib.hid hva0
  clear hva0
  have c0 := (rowAt_cell HB.out 0).trans HVA0.out
  have co := (HW1.out.ins i hin).1
  have HAD : Hid (∀ (j : Nat) (V : World), j ≤ m → j < n → Below w.heap.size w V → Calls Try.prog 78 #[.agg VA, .int .i64 j] V (ValP (adS fOf F r j) V)) := Lib.hid (fun j V h1 h2 h3 => by
    rw [HVA.out]
    exact addr_c F r b off n cap g m j V (Lib.hid (HW.out.below h3)) (Lib.hid (HO.out.below h3)) h1 h2 hm hn)
  have HHD : Hid (∀ (j : Nat) (V : World), j ≤ m → j < n → Below w.heap.size w V → Calls Try.prog 162 #[.agg VA, .int .i64 j] V fun e w' => e = .returned (.bool (handB fOf F r j)) ∧ Below V.heap.size V w') := Lib.hid (fun j V h1 h2 h3 => by
    rw [HVA.out]
    exact hands_c F r b off n cap g m j V (Lib.hid (HW.out.below h3)) (Lib.hid (HO.out.below h3)) h1 h2 hm hn)
  have HBD : Hid (∀ (j : Nat), j ≤ m → ∀ a, adS fOf F r j = some a → 0 ≤ a ∧ a < 18446744073709551616) := Lib.hid (fun j h1 a ha => adS_bd F r hr j (fun k hk => hF k (by omega)) a ha)
  have Hm : Hid (m ≤ n) := Lib.hid hm
  clear hr hF
  have HPL := Lib.hid (plain_c (F i).op)
  have HA0 := Lib.hid (HAD.out i _ hi hin HL.out)
  cases ha : adS fOf F r i with
  | none =>
    rw [ha] at HA0
    have HF0 : Hid (fwdS fOf F r i = none) := Lib.hid (by unfold fwdS; rw [ha])
    clear ha
    cases hp : plainB (F i).op
    all_goals
      rw [hp] at HPL
      clear hp
      go_enter Try.func77, Try.ntmps77
      go_wp2_with (first | (refine wpl_load rfl 126 _ rfl w.heap.size 0 rfl VA (by rw [HVA.out] at HB ⊢; exact vw_all HB.out) ?_) | (go_at_call 78; refine (HA0.out).mono ?_; rintro e w2 ⟨rfl, hb⟩; have HL2 := Lib.hid (below_step HL.out hb rfl rfl rfl rfl); clear hb) | (go_at_call 160; refine (HPL.out _).mono ?_; rintro e w' ⟨rfl, rfl⟩))
      go_ret2
      exact ⟨by rw [HF0.out]; rfl, HL2.out⟩
  | some a =>
    rw [ha] at HA0
    obtain ⟨a1, a2⟩ := HBD.out i hi a ha
    cases hp : plainB (F i).op
    · have HF0 : Hid (fwdS fOf F r i = none) := Lib.hid (by unfold fwdS; rw [ha]; simp only; rw [if_neg (by rw [hp]; simp)])
      rw [hp] at HPL
      clear hp ha
      go_enter Try.func77, Try.ntmps77
      go_wp2_with (first | (refine wpl_load rfl 126 _ rfl w.heap.size 0 rfl VA (by rw [HVA.out] at HB ⊢; exact vw_all HB.out) ?_) | (go_at_call 78; refine (HA0.out).mono ?_; rintro e w2 ⟨rfl, hb⟩; have HL2 := Lib.hid (below_step HL.out hb rfl rfl rfl rfl); clear hb) | (go_at_call 160; refine (HPL.out _).mono ?_; rintro e w' ⟨rfl, rfl⟩))
      go_ret2
      exact ⟨by rw [HF0.out]; rfl, HL2.out⟩
    · by_cases hal : (F i).op = 30 ∨ a % 8 = 0
      · have HF0 : Hid (fwdS fOf F r i = fwdL fOf F r a i) := Lib.hid (by unfold fwdS; rw [ha]; simp only; rw [if_pos ⟨hp, hal⟩])
        have e3 : ((F i).op != 30) = false ∨ (((F i).op != 30) = true ∧ (a % 8 != 0) = false) := by
          rcases hal with h | h
          · left; simp [h]
          · by_cases h3 : (F i).op = 30
            · left; simp [h3]
            · right; simp [h3, h]
        rw [hp] at HPL
        clear hp ha hal
        rcases e3 with e3 | ⟨e3, e4⟩
        all_goals
          go_enter Try.func77, Try.ntmps77
          go_wp2_with (first | (refine wpl_load rfl 126 _ rfl w.heap.size 0 rfl VA (by rw [HVA.out] at HB ⊢; exact vw_all HB.out) ?_) | (go_at_call 78; refine (HA0.out).mono ?_; rintro e w2 ⟨rfl, hb⟩; have HS2 : Hid (FwS w VA w2) := Lib.hid ⟨rowAt_below HB.out hb rfl, below_step HL.out hb rfl rfl rfl rfl⟩; clear hb) | (go_at_call 160; refine (HPL.out _).mono ?_; rintro e w' ⟨rfl, rfl⟩))
          go_loopw [4, 5, 9] (fun s4 s5 s9 W => ∃ k : Nat, k ≤ i ∧ s9 = .int .i64 ((k : Int) - 1) ∧ s4 = .int .i64 0 ∧ s5 = .bool false ∧ FwS w VA W ∧ fwdL fOf F r a i = fwdL fOf F r a k) (fun _ _ s9 _ => (intOf s9 + 1).toNat)
          case atStart => exact ⟨i, Nat.le_refl _, rfl, rfl, rfl, HS2.out, rfl⟩
          case round =>
            obtain ⟨k, hk, rfl, rfl, rfl, hS, hE⟩ := hrel
            have HSr := Lib.hid hS
            replace hE := Lib.hid hE
            clear hS e3
            cases k with
            | zero =>
              have z : ((0 : Nat) : Int) - 1 = -1 := rfl
              rw [z]
              clear z
              go_wp2
              go_ret2
              exact ⟨by rw [HF0.out, hE.out]; rfl, HSr.out.l⟩
            | succ j =>
              have z : ((j + 1 : Nat) : Int) - 1 = j := by omega
              rw [z]
              clear z
              have hjn : j < n := by omega
              have HAj := Lib.hid (HAD.out j wr (by omega) hjn HSr.out.l)
              cases hb : adS fOf F r j with
              | none =>
                rw [hb] at HAj
                have HE2 : Hid (fwdL fOf F r a i = fwdL fOf F r a j) := Lib.hid (by rw [hE.out, fwdL, hb])
                clear hb
                go_wp2_with (first | (refine wpl_load rfl 126 _ rfl w.heap.size 0 rfl VA (vwl HVA.out HSr.out) ?_) | (go_at_call 78; refine (HAj.out).mono ?_; rintro e w2 ⟨rfl, hb⟩; have HS2 : Hid (FwS w VA w2) := Lib.hid ⟨rowAt_below HSr.out.v hb rfl, below_step HSr.out.l hb rfl rfl rfl rfl⟩; clear hb; have c2 := (rowAt_cell HS2.out.v 0).trans HVA0.out))
                go_roundw
                case rel => exact ⟨j, by omega, rfl, rfl, rfl, HS2.out, HE2.out⟩
                case measure => simp [intOf]
              | some c =>
                rw [hb] at HAj
                obtain ⟨b1, b2⟩ := HBD.out j (by omega) c hb
                by_cases hg : c / 8 = a / 8
                · have e5 : (c / 8 != a / 8) = false := by simp [hg]
                  have hE2 : fwdL fOf F r a i = (if loadB (F j).op = true ∧ (F j).dn = false then none else if storeB (F j).op = true then (if handB fOf F r j = true then some j else none) else fwdL fOf F r a j) := by
                    rw [hE.out, fwdL, hb]
                    simp only
                    rw [if_pos hg]
                  have HE2 := Lib.hid hE2
                  clear hE2 hg hb
                  obtain ⟨dn, hdn⟩ : ∃ o, (F j).dn = o := ⟨_, rfl⟩
                  have HDN := Lib.hid hdn
                  have HLd := Lib.hid (load_c (F j).op)
                  have HSt := Lib.hid (store_c (F j).op)
                  clear hdn
                  have HHj : Hid (∀ (V : World), Below w.heap.size w V → Calls Try.prog 162 #[.agg VA, .int .i64 j] V fun e w' => e = .returned (.bool (handB fOf F r j)) ∧ Below V.heap.size V w') := Lib.hid (fun V h3 => HHD.out j V (by omega) hjn h3)
                  by_cases hl : loadB (F j).op = true ∧ dn = false
                  · obtain ⟨hl1, rfl⟩ := hl
                    have HN : Hid (fwdL fOf F r a i = none) := Lib.hid (by rw [HE2.out, if_pos ⟨hl1, HDN.out⟩])
                    rw [hl1] at HLd
                    clear hl1
                    go_wp2_with (first | (refine wpl_load rfl 126 _ rfl w.heap.size 0 rfl VA (vwl HVA.out HSr.out) ?_) | (go_at_call 78; refine (HAj.out).mono ?_; rintro e w2 ⟨rfl, hb⟩; have HS2 : Hid (FwS w VA w2) := Lib.hid ⟨rowAt_below HSr.out.v hb rfl, below_step HSr.out.l hb rfl rfl rfl rfl⟩; clear hb; have c2 := (rowAt_cell HS2.out.v 0).trans HVA0.out) | (refine wpl_load rfl 31 _ rfl b (off + j * 46) rfl (F j).arr ((HW.out.below HS2.out.l).load j hjn) ?_) | (refine wpl_store rfl 31 _ _ rfl w2.heap.size (F j).arr #[.int .u64 0, .int .i64 0, .int .i64 0, .int .i64 0, .int .i64 0, .int .i64 0, .int .i64 0, .int .i64 0, .int .u64 0, .bool false, .int .u64 0, .int .u64 0, .int .u64 0, .int .u64 0, .int .u64 0, .int .u64 0, .int .u64 0, .int .u64 0, .int .u64 0, .int .u64 0, .int .u64 0, .int .u64 0, .int .u64 0, .int .u64 0, .int .u64 0, .int .u64 0, .int .u64 0, .int .u64 0, .int .u64 0, .int .u64 0, .int .u64 0, .int .u64 0, .int .u64 0, .int .u64 0, .int .u64 0, .int .u64 0, .int .u64 0, .int .u64 0, .int .u64 0, .int .u64 0, .int .u64 0, .int .u64 0, .bool false, .bool false, .bool false, .bool false] rfl rfl (rowAt_new _ _ _) (by rw [(F j).size]; exact info31) (by rw [(F j).size]; rfl) (F j).one ?_; intro w3 hrow hg; have HS3 : Hid (FwS w VA w3) := Lib.hid ⟨rowAt_grown (rowAt_past HS2.out.v _) hg (Nat.ne_of_lt (rowAt_lt HS2.out.v)), grown_below (HS2.out.l.alloc HS2.out.l.size _) hg HS2.out.l.size⟩; have q1 := (rowAt_cell hrow 1).trans ((F j).lo 1 (by decide)); have q9 : w3.cell? ⟨w2.heap.size, 9, none⟩ = some (.bool (F j).dn) := (rowAt_cell hrow 9).trans ((F j).lo 9 (by decide)); rw [HDN.out] at q9; clear hrow hg) | (go_at_call 161; refine (HLd.out _).mono ?_; rintro e w' ⟨rfl, rfl⟩) | (go_at_call 155; refine (HSt.out _).mono ?_; rintro e w' ⟨rfl, rfl⟩))
                    go_ret2
                    exact ⟨by rw [HF0.out, HN.out]; rfl, HS3.out.l⟩
                  · have HE3 : Hid (fwdL fOf F r a i = (if storeB (F j).op = true then (if handB fOf F r j = true then some j else none) else fwdL fOf F r a j)) := Lib.hid (by rw [HE2.out, HDN.out, if_neg hl])
                    have l3 : loadB (F j).op = false ∨ (loadB (F j).op = true ∧ dn = true) := by
                      cases hh : loadB (F j).op
                      · exact .inl rfl
                      · cases dn
                        · exact absurd ⟨hh, rfl⟩ hl
                        · exact .inr ⟨rfl, rfl⟩
                    clear hl
                    cases hst : storeB (F j).op
                    · rw [hst] at HSt HE3
                      clear hst
                      rcases l3 with l3 | ⟨l3, rfl⟩
                      all_goals
                        rw [l3] at HLd
                        clear l3
                        go_wp2_with (first | (refine wpl_load rfl 126 _ rfl w.heap.size 0 rfl VA (vwl HVA.out HSr.out) ?_) | (go_at_call 78; refine (HAj.out).mono ?_; rintro e w2 ⟨rfl, hb⟩; have HS2 : Hid (FwS w VA w2) := Lib.hid ⟨rowAt_below HSr.out.v hb rfl, below_step HSr.out.l hb rfl rfl rfl rfl⟩; clear hb; have c2 := (rowAt_cell HS2.out.v 0).trans HVA0.out) | (refine wpl_load rfl 31 _ rfl b (off + j * 46) rfl (F j).arr ((HW.out.below HS2.out.l).load j hjn) ?_) | (refine wpl_store rfl 31 _ _ rfl w2.heap.size (F j).arr #[.int .u64 0, .int .i64 0, .int .i64 0, .int .i64 0, .int .i64 0, .int .i64 0, .int .i64 0, .int .i64 0, .int .u64 0, .bool false, .int .u64 0, .int .u64 0, .int .u64 0, .int .u64 0, .int .u64 0, .int .u64 0, .int .u64 0, .int .u64 0, .int .u64 0, .int .u64 0, .int .u64 0, .int .u64 0, .int .u64 0, .int .u64 0, .int .u64 0, .int .u64 0, .int .u64 0, .int .u64 0, .int .u64 0, .int .u64 0, .int .u64 0, .int .u64 0, .int .u64 0, .int .u64 0, .int .u64 0, .int .u64 0, .int .u64 0, .int .u64 0, .int .u64 0, .int .u64 0, .int .u64 0, .int .u64 0, .bool false, .bool false, .bool false, .bool false] rfl rfl (rowAt_new _ _ _) (by rw [(F j).size]; exact info31) (by rw [(F j).size]; rfl) (F j).one ?_; intro w3 hrow hg; have HS3 : Hid (FwS w VA w3) := Lib.hid ⟨rowAt_grown (rowAt_past HS2.out.v _) hg (Nat.ne_of_lt (rowAt_lt HS2.out.v)), grown_below (HS2.out.l.alloc HS2.out.l.size _) hg HS2.out.l.size⟩; have q1 := (rowAt_cell hrow 1).trans ((F j).lo 1 (by decide)); have q9 : w3.cell? ⟨w2.heap.size, 9, none⟩ = some (.bool (F j).dn) := (rowAt_cell hrow 9).trans ((F j).lo 9 (by decide)); rw [HDN.out] at q9; clear hrow hg) | (go_at_call 161; refine (HLd.out _).mono ?_; rintro e w' ⟨rfl, rfl⟩) | (go_at_call 155; refine (HSt.out _).mono ?_; rintro e w' ⟨rfl, rfl⟩))
                        go_roundw
                        case rel => exact ⟨j, by omega, rfl, rfl, rfl, HS3.out, by rw [HE3.out]; rfl⟩
                        case measure => simp [intOf]
                    · rw [hst] at HSt HE3
                      clear hst
                      cases hh : handB fOf F r j
                      all_goals
                        rw [hh] at HHj HE3
                        clear hh
                        rcases l3 with l3 | ⟨l3, rfl⟩
                        all_goals
                          rw [l3] at HLd
                          clear l3
                          go_wp2_with (first | (refine wpl_load rfl 126 _ rfl w.heap.size 0 rfl VA (vwl HVA.out HSr.out) ?_) | (go_at_call 78; refine (HAj.out).mono ?_; rintro e w2 ⟨rfl, hb⟩; have HS2 : Hid (FwS w VA w2) := Lib.hid ⟨rowAt_below HSr.out.v hb rfl, below_step HSr.out.l hb rfl rfl rfl rfl⟩; clear hb; have c2 := (rowAt_cell HS2.out.v 0).trans HVA0.out) | (refine wpl_load rfl 31 _ rfl b (off + j * 46) rfl (F j).arr ((HW.out.below HS2.out.l).load j hjn) ?_) | (refine wpl_store rfl 31 _ _ rfl w2.heap.size (F j).arr #[.int .u64 0, .int .i64 0, .int .i64 0, .int .i64 0, .int .i64 0, .int .i64 0, .int .i64 0, .int .i64 0, .int .u64 0, .bool false, .int .u64 0, .int .u64 0, .int .u64 0, .int .u64 0, .int .u64 0, .int .u64 0, .int .u64 0, .int .u64 0, .int .u64 0, .int .u64 0, .int .u64 0, .int .u64 0, .int .u64 0, .int .u64 0, .int .u64 0, .int .u64 0, .int .u64 0, .int .u64 0, .int .u64 0, .int .u64 0, .int .u64 0, .int .u64 0, .int .u64 0, .int .u64 0, .int .u64 0, .int .u64 0, .int .u64 0, .int .u64 0, .int .u64 0, .int .u64 0, .int .u64 0, .int .u64 0, .bool false, .bool false, .bool false, .bool false] rfl rfl (rowAt_new _ _ _) (by rw [(F j).size]; exact info31) (by rw [(F j).size]; rfl) (F j).one ?_; intro w3 hrow hg; have HS3 : Hid (FwS w VA w3) := Lib.hid ⟨rowAt_grown (rowAt_past HS2.out.v _) hg (Nat.ne_of_lt (rowAt_lt HS2.out.v)), grown_below (HS2.out.l.alloc HS2.out.l.size _) hg HS2.out.l.size⟩; have q1 := (rowAt_cell hrow 1).trans ((F j).lo 1 (by decide)); have q9 : w3.cell? ⟨w2.heap.size, 9, none⟩ = some (.bool (F j).dn) := (rowAt_cell hrow 9).trans ((F j).lo 9 (by decide)); rw [HDN.out] at q9; clear hrow hg) | (go_at_call 161; refine (HLd.out _).mono ?_; rintro e w' ⟨rfl, rfl⟩) | (go_at_call 155; refine (HSt.out _).mono ?_; rintro e w' ⟨rfl, rfl⟩) | (refine wpl_load rfl 126 _ rfl w.heap.size 0 rfl VA (vwl HVA.out HS3.out) ?_) | (go_at_call 162; refine (HHj.out _ HS3.out.l).mono ?_; rintro e w4 ⟨rfl, hb⟩; have HL4 := Lib.hid (below_step HS3.out.l hb rfl rfl rfl rfl); clear hb))
                          go_ret2
                          exact ⟨by rw [HF0.out, HE3.out]; rfl, HL4.out⟩
                · have e5 : (c / 8 != a / 8) = true := by simp [hg]
                  have HE2 : Hid (fwdL fOf F r a i = fwdL fOf F r a j) := Lib.hid (by rw [hE.out, fwdL, hb]; simp only; rw [if_neg hg])
                  clear hg hb
                  go_wp2_with (first | (refine wpl_load rfl 126 _ rfl w.heap.size 0 rfl VA (vwl HVA.out HSr.out) ?_) | (go_at_call 78; refine (HAj.out).mono ?_; rintro e w2 ⟨rfl, hb⟩; have HS2 : Hid (FwS w VA w2) := Lib.hid ⟨rowAt_below HSr.out.v hb rfl, below_step HSr.out.l hb rfl rfl rfl rfl⟩; clear hb; have c2 := (rowAt_cell HS2.out.v 0).trans HVA0.out))
                  go_roundw
                  case rel => exact ⟨j, by omega, rfl, rfl, rfl, HS2.out, HE2.out⟩
                  case measure => simp [intOf]
      · have HF0 : Hid (fwdS fOf F r i = none) := Lib.hid (by unfold fwdS; rw [ha]; simp only; rw [if_neg (fun h => hal h.2)])
        have e3 : ((F i).op != 30) = true := by simp; intro h; exact hal (.inl h)
        have e4 : (a % 8 != 0) = true := by simp; intro h; exact hal (.inr h)
        rw [hp] at HPL
        clear hp ha hal
        go_enter Try.func77, Try.ntmps77
        go_wp2_with (first | (refine wpl_load rfl 126 _ rfl w.heap.size 0 rfl VA (by rw [HVA.out] at HB ⊢; exact vw_all HB.out) ?_) | (go_at_call 78; refine (HA0.out).mono ?_; rintro e w2 ⟨rfl, hb⟩; have HL2 := Lib.hid (below_step HL.out hb rfl rfl rfl rfl); clear hb) | (go_at_call 160; refine (HPL.out _).mono ?_; rintro e w' ⟨rfl, rfl⟩))
        go_ret2
        exact ⟨by rw [HF0.out]; rfl, HL2.out⟩
end Go.Proofs.Ytnbpgoacooddjaa
