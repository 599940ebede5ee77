import Derived.Deep.DrawnRows
import Derived.Test.YtpiafgmncfibmaaQz
import Derived.Test.YtpiafgmncfibmaaFr
import Derived.Test.YtpiafgmncfibmaaE7
import Derived.Test.YtpiafgmncfibmaaRows
import Derived.WalkKit
import Derived.ProofKit
import Derived.OpenShut
import Derived.Deep.QuietTactic
import Derived.BigQuiet
import Derived.Outline
import Derived.WalkSmall
import Derived.WalkLawsBesides
import Derived.WalkSpells
import Derived.BigGuardPart
import Derived.RegionTactic
import Derived.Deep.RegionHeld3
import Derived.Lib.Hide
import Derived.Deep.MidRow
import Derived.Below
import Derived.Deep.RegionWith
import Derived.Deep.OwnRows
import Derived.Deep.AppendLies
import Derived.Deep.RegionLaw
namespace Go.Proofs.Ytpiafgmncfibmaa
open Go.ChangeShapes Go.WideShapes Go.ChangeAt Go.RowKit
set_option linter.unusedVariables false

theorem eqv_refl' (P : Pg) : P.eqv P := ⟨⟨rfl, fun _ _ => rfl⟩, rfl, fun _ _ => ⟨rfl, fun _ _ => ⟨rfl, rfl⟩⟩, rfl, fun _ _ => ⟨rfl, rfl, ⟨rfl, fun _ _ => rfl⟩, ⟨rfl, fun _ _ => rfl⟩, ⟨rfl, fun _ _ => rfl⟩⟩⟩
def zP : Pg := { prs (fun _ => 0) with np := 0, nc := 0, nm := 0 }
theorem zP_at (V : World) : PgAt V zP noAd := PgOwn.at (lo := 0) ⟨nil_row _ _ _ _ _ rfl, nil_row _ _ _ _ _ rfl, fun i hi => absurd hi (Nat.not_lt_zero i), nil_row _ _ _ _ _ rfl, fun i hi => absurd hi (Nat.not_lt_zero i), fun i hi => absurd hi (Nat.not_lt_zero i), fun i hi => absurd hi (Nat.not_lt_zero i)⟩
theorem zP_fit (A : Ad) : Fits zP A := ⟨Nat.zero_le _, Nat.zero_le _, Nat.zero_le _, fun i hi => absurd hi (Nat.not_lt_zero i), fun i hi => absurd hi (Nat.not_lt_zero i), fun i hi => absurd hi (Nat.not_lt_zero i), fun i hi => absurd hi (Nat.not_lt_zero i), fun i hi => absurd hi (Nat.not_lt_zero i), fun i j hi => absurd hi (Nat.not_lt_zero i)⟩
theorem parsey_c (a : Option Addr) (n c : Nat) (D : Nat → Nat) (w : World) (hI : Hid (BytesIn w a n D)) : Calls Try.prog 19 #[.slice a n c] w (ParseX w n D) :=
  parsey_s ⟨w, w.heap.size + 1, n, c, a, D⟩ (Lib.hid ⟨hI.out.big, hI.out.byt, by
    rcases hI.out.row with h | ⟨b, o, h1, h2, h3⟩
    · exact .inl h
    · exact .inr ⟨b, o, h1, ⟨h2, by show b ≠ w.heap.size + 1; omega⟩, h3⟩⟩) rfl
set_option maxRecDepth 100000 in
set_option maxHeartbeats 4000000 in
theorem parses_c (a : Option Addr) (n c : Nat) (D : Nat → Nat) (w : World) (hI : BytesIn w a n D) : Calls Try.prog 4 #[.slice a n c] w (SomeT w) := by
  have HIn : Hid (∀ V, Below w.heap.size w V → BytesIn V a n D) := Lib.hid fun V hb => ⟨hI.big, hI.byt, hI.row.kept (Kept.of hb)⟩
  have HDl : Hid (∀ i, i < n → D i < 256) := Lib.hid hI.byt
  have hn := hI.big
  unfold Big at hn
  clear hI
  go_enter Try.func4, Try.ntmps4
  go_wp2_with fail
  refine (known14_c w).mono ?_
  rintro e V1 ⟨rfl, hb1⟩
  have HB1 : Hid (Below w.heap.size w V1) := Lib.hid hb1
  clear hb1
  by_cases hbig : 32768 < n
  · have d1 : decide ((32768 : Int) < (n : Int)) = true := decide_eq_true (by omega)
    go_wp2
    go_ret
    exact ⟨rfl, HB1.out⟩
  have d1 : decide ((32768 : Int) < (n : Int)) = false := decide_eq_false (by omega)
  go_wp2_with fail
  clear d1
  refine (parsex_c a n c D _ (Lib.hid (HIn.out _ HB1.out))).mono ?_
  intro e V2 h
  rcases h.two with ⟨q, er, hx, he, hb⟩ | ⟨hx, A1, he, ho, hb⟩
  · obtain rfl : e = .returned (.tuple #[.agg #[.slice none 0 0, .slice none 0 0, .slice none 0 0], .int .i64 q, .int .i64 er]) := he
    have HB2 := Lib.hid (HB1.out.trans (hb.mono HB1.out.size))
    obtain ⟨V3, hV3⟩ : ∃ V, V = V2.alloc (.cells #[.slice none 0 0, .slice none 0 0, .slice none 0 0] 26) := ⟨_, rfl⟩
    obtain ⟨Q1, hQ1⟩ : ∃ b, b = V2.heap.size := ⟨_, rfl⟩
    have HB3 : Hid (Below w.heap.size w V3) := Lib.hid (by rw [hV3]; exact HB2.out.alloc HB2.out.size _)
    have HX1 : Hid (BoxT V3 Q1 #[.slice none 0 0, .slice none 0 0, .slice none 0 0] 26) := Lib.hid (by rw [hV3, hQ1]; exact heap_alloc_new _ _)
    have HV3 := Lib.hid (And.intro hV3 hQ1)
    clear hb h hV3 hQ1
    go_wp2_with fail
    rw [← HV3.out.1]
    refine (parsey_c a n c D V3 (Lib.hid (HIn.out _ HB3.out))).mono ?_
    intro e V4 h
    rcases h.two with ⟨q', er', hx', he, hb⟩ | ⟨hx', A2, he, ho, hb⟩
    rotate_left
    · exact absurd (hx.out.symm.trans hx'.out) (by simp)
    have hqq := hx.out.symm.trans hx'.out
    injection hqq with hqq
    injection hqq with h8 h9
    subst h8 h9
    obtain rfl : e = .returned (.tuple #[.agg #[.slice none 0 0, .slice none 0 0, .slice none 0 0], .int .i64 q, .int .i64 er]) := he
    have HB4 := Lib.hid (HB3.out.trans (hb.mono HB3.out.size))
    have HB5 : Hid (Below w.heap.size w (V4.alloc (.cells #[.slice none 0 0, .slice none 0 0, .slice none 0 0] 26))) := Lib.hid (HB4.out.alloc HB4.out.size _)
    have HX3 : Hid (BoxT (V4.alloc (.cells #[.slice none 0 0, .slice none 0 0, .slice none 0 0] 26)) Q1 #[.slice none 0 0, .slice none 0 0, .slice none 0 0] 26) := Lib.hid ((HX1.out.keep (.below hb)).keep (.alloc _ _))
    have HRS : Hid (Calls Try.prog 20 #[.agg #[.slice none 0 0, .slice none 0 0, .slice none 0 0], .agg #[.slice none 0 0, .slice none 0 0, .slice none 0 0]] (V4.alloc (.cells #[.slice none 0 0, .slice none 0 0, .slice none 0 0] 26)) fun e w' => e = .returned (.bool true) ∧ Below (V4.alloc (.cells #[.slice none 0 0, .slice none 0 0, .slice none 0 0] 26)).heap.size (V4.alloc (.cells #[.slice none 0 0, .slice none 0 0, .slice none 0 0] 26)) w') := Lib.hid (rsame_c zP noAd zP noAd _ (zP_at _) (zP_fit _) (zP_at _) (zP_fit _) true (by simp [eqv_refl']))
    obtain ⟨V6, hV6⟩ : ∃ V, V = V4.alloc (.cells #[.slice none 0 0, .slice none 0 0, .slice none 0 0] 26) := ⟨_, rfl⟩
    have u0 : (V4.alloc (.cells #[.slice none 0 0, .slice none 0 0, .slice none 0 0] 26)).cell? ⟨Q1, 0, none⟩ = some (.slice none 0 0) := HX3.out.cell 0
    have u1 : (V4.alloc (.cells #[.slice none 0 0, .slice none 0 0, .slice none 0 0] 26)).cell? ⟨Q1, 1, none⟩ = some (.slice none 0 0) := HX3.out.cell 1
    have u2 : (V4.alloc (.cells #[.slice none 0 0, .slice none 0 0, .slice none 0 0] 26)).cell? ⟨Q1, 2, none⟩ = some (.slice none 0 0) := HX3.out.cell 2
    have HQ1 := Lib.hid HV3.out.2
    clear hb h
    rw [← HQ1.out]
    clear hV6
    go_wp2_with fail
    refine HRS.out.mono ?_
    rintro e V7 ⟨rfl, hb7⟩
    have HB7 := Lib.hid (HB5.out.trans (hb7.mono HB5.out.size))
    clear hb7 u0 u1 u2
    go_wp2
    go_ret
    exact ⟨rfl, HB7.out⟩
  · obtain ⟨xp, hxp⟩ : ∃ x, (prs D).np = x := ⟨_, rfl⟩
    obtain ⟨xc, hxc⟩ : ∃ x, (prs D).nc = x := ⟨_, rfl⟩
    obtain ⟨xm, hxm⟩ : ∃ x, (prs D).nm = x := ⟨_, rfl⟩
    have HXP := Lib.hid hxp
    have HXC := Lib.hid hxc
    have HXM := Lib.hid hxm
    have hce : (prs D).cells A1 = #[.slice A1.pa xp A1.pc, .slice A1.ca xc A1.cc, .slice A1.ma xm A1.mc] := by rw [← hxp, ← hxc, ← hxm]; rfl
    have HCE := Lib.hid hce
    rw [hce] at he
    subst he
    clear hce hxp hxc hxm
    have HB2 := Lib.hid (HB1.out.trans (hb.mono HB1.out.size))
    obtain ⟨V3, hV3⟩ : ∃ V, V = V2.alloc (.cells #[.slice A1.pa xp A1.pc, .slice A1.ca xc A1.cc, .slice A1.ma xm A1.mc] 26) := ⟨_, rfl⟩
    obtain ⟨Q1, hQ1⟩ : ∃ b, b = V2.heap.size := ⟨_, rfl⟩
    have HB3 : Hid (Below w.heap.size w V3) := Lib.hid (by rw [hV3]; exact HB2.out.alloc HB2.out.size _)
    have HX1 : Hid (BoxT V3 Q1 #[.slice A1.pa xp A1.pc, .slice A1.ca xc A1.cc, .slice A1.ma xm A1.mc] 26) := Lib.hid (by rw [hV3, hQ1]; exact heap_alloc_new _ _)
    have HO3 : Hid (PgOwn w.heap.size V3 (prs D) A1) := Lib.hid (by rw [hV3]; exact (ho.mono HB1.out.size).keepE fun e _ => .alloc _ _)
    clear ho
    have HV3 := Lib.hid (And.intro hV3 hQ1)
    clear hb h hV3 hQ1
    go_wp2_with fail
    rw [← HV3.out.1]
    refine (parsey_c a n c D V3 (Lib.hid (HIn.out _ HB3.out))).mono ?_
    intro e V4 h
    rcases h.two with ⟨q', er', hx', he, hb⟩ | ⟨hx', A2, he, ho, hb⟩
    · exact absurd (hx.out.symm.trans hx'.out) (by simp)
    have hce2 : (prs D).cells A2 = #[.slice A2.pa xp A2.pc, .slice A2.ca xc A2.cc, .slice A2.ma xm A2.mc] := by rw [← HXP.out, ← HXC.out, ← HXM.out]; rfl
    rw [hce2] at he
    subst he
    have HB4 := Lib.hid (HB3.out.trans (hb.mono HB3.out.size))
    have HB5 : Hid (Below w.heap.size w (V4.alloc (.cells #[.slice A2.pa xp A2.pc, .slice A2.ca xc A2.cc, .slice A2.ma xm A2.mc] 26))) := Lib.hid (HB4.out.alloc HB4.out.size _)
    have HX3 : Hid (BoxT (V4.alloc (.cells #[.slice A2.pa xp A2.pc, .slice A2.ca xc A2.cc, .slice A2.ma xm A2.mc] 26)) Q1 #[.slice A1.pa xp A1.pc, .slice A1.ca xc A1.cc, .slice A1.ma xm A1.mc] 26) := Lib.hid ((HX1.out.keep (.below hb)).keep (.alloc _ _))
    have HRS : Hid (Calls Try.prog 20 #[.agg #[.slice A1.pa xp A1.pc, .slice A1.ca xc A1.cc, .slice A1.ma xm A1.mc], .agg #[.slice A2.pa xp A2.pc, .slice A2.ca xc A2.cc, .slice A2.ma xm A2.mc]] (V4.alloc (.cells #[.slice A2.pa xp A2.pc, .slice A2.ca xc A2.cc, .slice A2.ma xm A2.mc] 26)) fun e w' => e = .returned (.bool true) ∧ Below (V4.alloc (.cells #[.slice A2.pa xp A2.pc, .slice A2.ca xc A2.cc, .slice A2.ma xm A2.mc] 26)).heap.size (V4.alloc (.cells #[.slice A2.pa xp A2.pc, .slice A2.ca xc A2.cc, .slice A2.ma xm A2.mc] 26)) w') := Lib.hid (by
      have p1 : PgAt (V4.alloc (.cells #[.slice A2.pa xp A2.pc, .slice A2.ca xc A2.cc, .slice A2.ma xm A2.mc] 26)) (prs D) A1 := ((HO3.out.keepE fun e _ => .below hb).keepE fun e _ => .alloc _ _).at
      have p2 : PgAt (V4.alloc (.cells #[.slice A2.pa xp A2.pc, .slice A2.ca xc A2.cc, .slice A2.ma xm A2.mc] 26)) (prs D) A2 := (ho.keepE fun e _ => .alloc _ _).at
      have h9 := rsame_c (prs D) A1 (prs D) A2 _ p1 (b_fits hx.out HDl.out A1) p2 (b_fits hx.out HDl.out A2) true (by simp [eqv_refl'])
      rw [hce2, HCE.out] at h9
      exact h9)
    clear ho hce2
    obtain ⟨V6, hV6⟩ : ∃ V, V = V4.alloc (.cells #[.slice A2.pa xp A2.pc, .slice A2.ca xc A2.cc, .slice A2.ma xm A2.mc] 26) := ⟨_, rfl⟩
    have u0 : (V4.alloc (.cells #[.slice A2.pa xp A2.pc, .slice A2.ca xc A2.cc, .slice A2.ma xm A2.mc] 26)).cell? ⟨Q1, 0, none⟩ = some (.slice A1.pa xp A1.pc) := HX3.out.cell 0
    have u1 : (V4.alloc (.cells #[.slice A2.pa xp A2.pc, .slice A2.ca xc A2.cc, .slice A2.ma xm A2.mc] 26)).cell? ⟨Q1, 1, none⟩ = some (.slice A1.ca xc A1.cc) := HX3.out.cell 1
    have u2 : (V4.alloc (.cells #[.slice A2.pa xp A2.pc, .slice A2.ca xc A2.cc, .slice A2.ma xm A2.mc] 26)).cell? ⟨Q1, 2, none⟩ = some (.slice A1.ma xm A1.mc) := HX3.out.cell 2
    have HQ1 := Lib.hid HV3.out.2
    clear hb h
    rw [← HQ1.out]
    clear hV6
    go_wp2_with fail
    refine HRS.out.mono ?_
    rintro e V7 ⟨rfl, hb7⟩
    have HB7 := Lib.hid (HB5.out.trans (hb7.mono HB5.out.size))
    clear hb7 u0 u1 u2
    go_wp2
    go_ret
    exact ⟨rfl, HB7.out⟩
end Go.Proofs.Ytpiafgmncfibmaa
