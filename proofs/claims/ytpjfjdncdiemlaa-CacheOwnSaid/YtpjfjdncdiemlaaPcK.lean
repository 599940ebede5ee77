import Derived.Test.YtpjfjdncdiemlaaRows
import Derived.WalkKit
import Derived.ProofKit
import Derived.OpenShut
import Derived.Deep.QuietTactic
import Derived.BigQuiet
import Derived.Outline
import Derived.WalkSmall
import Derived.WalkLawsBesides
import Derived.WalkSpells
import Derived.BigGuardPart
import Derived.RegionTactic
import Derived.Deep.RegionHeld3
import Derived.Lib.Hide
import Derived.Deep.OwnRows
import Derived.Maps.AppendAt
import Derived.Deep.AppendLies
import Derived.Below
import Derived.Test.YtpjfjdncdiemlaaPcE
import Derived.Test.YtpjfjdncdiemlaaPcT
import Derived.Deep.RegionLaw
import Derived.Deep.RegionWith
namespace Go.Proofs.Ytpjfjdncdiemlaa
open Go.ChangeShapes Go.WideShapes Go.ChangeAt Go.RowKit
set_option linter.unusedVariables false
set_option maxRecDepth 100000 in
theorem left_p (cb pb n cap at0 : Nat) (wd tk m a : Int) (wo : Option Addr) (wl wc : Nat) (st f r : Int) (w : World) (h1 : 0 ≤ tk) (h2 : tk ≤ wd) (h3 : wd ≤ 65536) (HC : Hid (PcAt w cb pb n cap at0 wd tk m a wo wl wc st f r)) :
    Calls Try.prog 25 #[.pointer (some ⟨cb, 0, none⟩)] w fun e w' => e = .returned (.int .i64 (wd - tk)) ∧ ∃ q, w' = w.drewN q := by
  obtain ⟨h0, _, _, a0, a1, a2, _⟩ := HC.out
  go_enter Try.func25, Try.ntmps25
  go_wp2
  go_quiet (fail)
  go_wp2
  go_ret
  exact ⟨rfl, _, rfl⟩
theorem r5 : (0 : Int) + roomOf 5 = 16 := by decide
theorem r17 : (16 : Int) + roomOf 17 = 48 := by decide
set_option maxRecDepth 100000 in
set_option maxHeartbeats 4000000 in
theorem known26_c (w : World) : Calls Try.prog 23 #[] w fun e w' => e = .returned (.bool true) ∧ Below w.heap.size w w' := by
  go_enter Try.func23, Try.ntmps23
  go_wp2_with fail
  refine (cnew_c 4096 64 _ (by decide) (by decide) (by decide) (by decide)).mono ?_
  rintro e w1 ⟨cb, rfl, hcb, hca, hb1⟩
  have HB1 := Lib.hid hb1
  have HC1 := Lib.hid hca
  clear hb1 hca
  go_wp2_with fail
  refine (take_y cb 4096 0 64 0 3 5 _ [] _ (by decide) (by decide) (by decide) (by decide) (by decide) (by decide) (by decide) HC1 (Lib.hid (fun j hj => absurd hj (Nat.not_lt_zero _)))).mono ?_
  rintro e w2 ⟨rfl, hb2, v2, hca2⟩
  have hca2' : CaAt w2 cb 4096 64 16 v2 1 (tkRow 3 4096 0 16) := by rw [r5] at hca2; exact hca2
  have HC2 := Lib.hid hca2'
  have HB2 := Lib.hid (HB1.out.trans (hb2.mono hcb))
  clear hca2 hca2' hb2 HC1 HB1
  go_wp2_with fail
  refine (take_y cb 4096 1 64 16 4 17 _ _ _ (by decide) (by decide) (by decide) (by decide) (by decide) (by decide) (by decide) HC2 (Lib.hid (fun j hj => ⟨3, ⟨4096, none, 0, 0, 0, 0, 16, by obtain rfl : j = 0 := (by omega); exact ⟨rfl, rfl, rfl, rfl, rfl, rfl⟩⟩, rfl⟩))).mono ?_
  rintro e w3 ⟨rfl, hb3, v3, hca3⟩
  have hca3' : CaAt w3 cb 4096 64 48 v3 2 (tkRow 3 4096 0 16 ++ tkRow 4 4160 16 32) := by rw [r17] at hca3; exact hca3
  have HB3 := Lib.hid (HB2.out.trans (hb3.mono hcb))
  obtain ⟨pb, cap, hpc⟩ := ca_pc hca3' (by decide) (m := 3) (a := 4096) (wo := none) (wl := 0) (wc := 0) (st := 0) (f := 0) (r := 16) ⟨rfl, rfl, rfl, rfl, rfl, rfl⟩
  have HP3 := Lib.hid hpc
  clear hca3 hca3' hb3 HC2 HB2 hpc
  go_wp2_with fail
  have HP3' := Lib.hid (HP3.out.below ((Below.refl _ _).alloc (Nat.le_refl _) (.cells #[.int .u32 1, .int .u32 2] 57)))
  have HB3' := Lib.hid (HB3.out.alloc HB3.out.size (.cells #[.int .u32 1, .int .u32 2] 57))
  have HW3 : Hid (WdAt (w3.alloc (.cells #[.int .u32 1, .int .u32 2] 57)) w3.heap.size 2 (fun i => i + 1)) := Lib.hid (fun p hp => by
    rw [World.cell?_alloc_at _ _ _ _ rfl]
    rcases (show p = 0 ∨ p = 1 by omega) with rfl | rfl <;> rfl)
  have hr3 : w3.heap.size < (w3.alloc (.cells #[.int .u32 1, .int .u32 2] 57)).heap.size := by simp
  obtain ⟨rb, hrb⟩ : ∃ rb, rb = w3.heap.size := ⟨_, rfl⟩
  rw [← hrb] at HW3 hr3
  rw [← hrb]
  clear HB3 HP3 hrb
  generalize w3.alloc (.cells #[.int .u32 1, .int .u32 2] 57) = w4 at *
  refine (lay_c cb pb 2 cap 4096 rb 2 2 64 48 3 4096 0 16 (fun i => i + 1) _ (by decide) (by decide) (by decide) (by decide) hr3 HW3 HP3').mono ?_
  rintro e w5 ⟨rfl, g, cp, hg1, hg2, hg3, hw5, hp5, hgr⟩
  have hcp := hp5.1
  have hpb5 := hp5.2.1
  have HB5 := Lib.hid (HB3'.out.grown hgr HB3'.out.size (fun q hq => by injection hq with hq; omega))
  have HP5 := Lib.hid hp5
  have HW5 := Lib.hid hw5
  clear HB3' HP3' HW3 hw5 hp5 hgr hr3
  go_wp2_with fail
  obtain ⟨yb, hyb⟩ : ∃ yb, yb = w5.heap.size := ⟨_, rfl⟩
  rw [← hyb]
  have HP5' := Lib.hid (HP5.out.below ((Below.refl _ _).alloc (Nat.le_refl _) (.cells #[.bool true, .int .i64 0, .int .u64 0, .int .i64 0] 65)))
  have HB5' := Lib.hid (HB5.out.alloc HB5.out.size (.cells #[.bool true, .int .i64 0, .int .u64 0, .int .i64 0] 65))
  have HW5' : Hid (WdAt (w5.alloc (.cells #[.bool true, .int .i64 0, .int .u64 0, .int .i64 0] 65)) g 2 (fun i => i + 1)) := Lib.hid (fun p hp => (World.cell?_alloc_past _ _ _ hg2).trans (HW5.out p hp))
  have HY5 : Hid (YesAt (w5.alloc (.cells #[.bool true, .int .i64 0, .int .u64 0, .int .i64 0] 65)) yb true 0 0 0) := Lib.hid ⟨by simp [hyb], World.cell?_alloc_at _ _ _ _ hyb, World.cell?_alloc_at _ _ _ _ hyb, World.cell?_alloc_at _ _ _ _ hyb, World.cell?_alloc_at _ _ _ _ hyb, World.frozen?_alloc_at _ _ _ _ hyb, World.frozen?_alloc_at _ _ _ _ hyb, World.frozen?_alloc_at _ _ _ _ hyb⟩
  have hg5 : g < (w5.alloc (.cells #[.bool true, .int .i64 0, .int .u64 0, .int .i64 0] 65)).heap.size := by simp; omega
  have hNy : w.heap.size ≤ yb := by have := HB5.out.size; omega
  have n1 : cb ≠ yb := by omega
  have n2 : pb ≠ yb := by omega
  have n3 : g ≠ yb := by omega
  clear HP5 HB5 HW5 hyb
  generalize w5.alloc (.cells #[.bool true, .int .i64 0, .int .u64 0, .int .i64 0] 65) = w6 at *
  refine (tell_c w.heap.size cb pb 2 cap 4096 g 2 cp yb 64 48 3 4096 0 16 0 0 0 (fun i => i + 1) _ (by decide) (by decide) (by decide) (by decide) (by decide) hg5 HW5' HP5' HY5 n1 n2 n3 hg3 hcb hNy).mono ?_
  rintro e w7 ⟨rfl, hb7, hy7, hw7, hp7⟩
  have HB7 := Lib.hid (HB5'.out.trans hb7)
  have HY7 := Lib.hid hy7
  have HW7 := Lib.hid hw7
  have HP7 := Lib.hid hp7
  have hg7 : g < w7.heap.size := Nat.lt_of_lt_of_le hg5 hb7.size
  clear HB5' HY5 HW5' HP5' hb7 hy7 hw7 hp7
  go_wp2_with fail
  refine (piece_c cb pb 2 cap 4096 g 2 cp 64 48 3 4096 2 0 16 (fun i => i + 1) _ (by decide) (by decide) (by decide) hg7 HW7 HP7).mono ?_
  rintro e w8 ⟨g8, cp8, rfl, _, _, _, _, hb8⟩
  have HB8 := Lib.hid (HB7.out.trans (hb8.mono HB7.out.size))
  have HY8 := Lib.hid (HY7.out.below hb8)
  have HP8 := Lib.hid (HP7.out.below hb8)
  clear HB7 HY7 HW7 HP7 hb8
  unfold pieceV
  go_wp2_with fail
  have hal : Below w8.heap.size w8 (w8.alloc (.cells #[.int .i64 3, .int .u64 4096, .slice (some ⟨g8, 0, none⟩) 2 cp8, .int .i64 2] 59)) := (Below.refl _ _).alloc (Nat.le_refl _) _
  have HP9 := Lib.hid (HP8.out.below hal)
  have HY9 := Lib.hid (HY8.out.below hal)
  have HB9 := Lib.hid (HB8.out.trans (hal.mono HB8.out.size))
  clear hal HP8 HY8 HB8
  generalize w8.alloc (.cells #[.int .i64 3, .int .u64 4096, .slice (some ⟨g8, 0, none⟩) 2 cp8, .int .i64 2] 59) = w9 at *
  refine (left_p cb pb 2 cap 4096 64 48 3 4096 _ _ _ _ _ _ _ (by decide) (by decide) (by decide) HP9).mono ?_
  rintro e w10 ⟨rfl, q, rfl⟩
  have hb10 : Below w9.heap.size w9 (w9.drewN q) := below_drewN (Below.refl _ _) q
  have HY10 := Lib.hid (HY9.out.below hb10)
  have HB10 := Lib.hid (HB9.out.trans (hb10.mono HB9.out.size))
  clear hb10 HP9 HY9 HB9
  generalize w9.drewN q = w10 at *
  obtain ⟨_, _, y1, _⟩ := HY10.out
  go_wp2
  go_ret
  exact ⟨by simp, HB10.out⟩
end Go.Proofs.Ytpjfjdncdiemlaa
