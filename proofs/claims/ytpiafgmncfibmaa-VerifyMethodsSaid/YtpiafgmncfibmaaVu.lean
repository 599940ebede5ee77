import Derived.Laws.BitsLemmas
import Derived.IntWalk
import Derived.Laws.BitsAllLaws
import Derived.Deep.DrawnRows
import Derived.Test.YtpiafgmncfibmaaVt
import Derived.Test.YtpiafgmncfibmaaRows
import Derived.WalkKit
import Derived.ProofKit
import Derived.OpenShut
import Derived.Deep.QuietTactic
import Derived.BigQuiet
import Derived.Outline
import Derived.WalkSmall
import Derived.WalkLawsBesides
import Derived.WalkSpells
import Derived.BigGuardPart
import Derived.RegionTactic
import Derived.Deep.RegionHeld3
import Derived.Lib.Hide
import Derived.Deep.MidRow
import Derived.Below
import Derived.Deep.RegionWith
import Derived.Deep.OwnRows
import Derived.Deep.AppendLies
import Derived.Deep.RegionLaw
import Derived.Deep.CutBlock
import Derived.Deep.DeepCutAuto
namespace Go.Proofs.Ytpiafgmncfibmaa.Vf
open Go.ChangeShapes Go.WideShapes Go.ChangeAt Go.RowKit
set_option linter.unusedVariables false

set_option maxRecDepth 100000 in
set_option maxHeartbeats 4000000 in
theorem puts_c (P : Pg) (A : Ad) (m c : Nat) (a b : Int) (sz : Int) (t : List Int) (a3 : Option Addr) (c3 : Nat) (w : World) (h : PgAt w P A) (hf : Fits P A) (hca : Caps P A) (hm : m < P.nm) (hN : nmB P m c a b = true) (hc41 : c < 41) (hI : Ints w a3 t) (ht : t.length = (takes P m c a b).length) : Calls Try.prog 71 #[.agg (P.cells A), .int .i64 m, .agg (ret4 c a b sz), .slice a3 t.length c3] w (GiveInts (puts P m c a b t) w) := by
  have HP := Lib.hid h
  have HF := Lib.hid hf
  have HCap := Lib.hid hca
  have HN := Lib.hid hN
  have hE : Below w.heap.size w ((w.alloc (.cells (P.cells A) 26)).alloc (.cells (ret4 c a b sz) 74)) := ((Below.refl _ _).alloc (Nat.le_refl _) _).alloc (by simp) _
  obtain ⟨bm, om, hma, hbm, hcm⟩ := h.m.resolve_left (by omega)
  have HM : Hid (∀ i, i < P.nm → _) := Lib.hid hcm
  have HMa := Lib.hid hma
  have hnm := hf.nm
  have hnc := hf.nc
  unfold Big at hnm hnc
  clear h hf hcm hca hN
  have HE := Lib.hid hE
  clear hE hma
  show Calls Try.prog 71 #[.agg #[.slice A.pa P.np A.pc, .slice A.ca P.nc A.cc, .slice A.ma P.nm A.mc], .int .i64 m, .agg #[.int .i64 c, .int .i64 a, .int .i64 b, .int .i64 sz], .slice a3 t.length c3] w _
  replace HE : Hid (Below w.heap.size w ((w.alloc (.cells #[.slice A.pa P.np A.pc, .slice A.ca P.nc A.cc, .slice A.ma P.nm A.mc] 26)).alloc (.cells #[.int .i64 c, .int .i64 a, .int .i64 b, .int .i64 sz] 74))) := HE
  by_cases h4 : c = 4
  · subst h4
    have hi : isIn a (P.pn m + P.ln m) = true := HN.out
    obtain ⟨k, rfl, hk⟩ := isIn_y hi
    clear hi
    show Calls _ _ _ _ (GiveInts [loc P m (k : Int).toNat] w)
    rw [show ((k : Int).toNat) = k from Int.toNat_natCast k]
    obtain ⟨x0, x1, x2, x3, x4⟩ := HM.out m hm
    have HL : Hid (∀ V, Below w.heap.size w V → Calls Try.prog 98 #[.agg #[.slice (A.ppa m) (P.pn m) (A.ppc m), .int .i64 (P.rt m), .slice (A.lla m) (P.ln m) (A.llc m), .int .i64 (P.sk m), .slice (A.cda m) (P.cn m) (A.cdc m)], .int .i64 (k : Int)] V fun e w' => e = .returned (.int .i64 (loc P m k)) ∧ Below V.heap.size V w') := Lib.hid fun V hV => local_c P A m k V ((HP.out.a m hm).kept (Kept.of hV)) ((HP.out.l m hm).kept (Kept.of hV)) (HF.out.pn m hm) hk (HF.out.ln m hm)
    rw [HMa.out] at HE ⊢
    have hi2 : (m : Int) < P.nm := by omega
    have hne : bm ≠ w.heap.size := by omega
    have hne2 : bm ≠ w.heap.size + 1 := by omega
    generalize loc P m k = x at HL ⊢
    go_enter Try.func71, Try.ntmps71
    go_wp2_with fail
    go_region_with ((go_at_call 98; refine (HL.out _ HE.out.drew).mono ?_; rintro e w1 ⟨rfl, hb1⟩))
    all_goals
      go_wp2
      go_ret
      exact GiveInts.new (NewInts.ofg [x] _ _ (by simp)) (HE.out.drew.trans (hb1.mono HE.out.size))
  by_cases h6 : c = 6
  · subst h6
    show Calls _ _ _ _ (GiveInts [t.getD 0 0, t.getD 0 0] w)
    have hl : t.length = 1 := ht
    obtain ⟨b3, o3, ha3, hb3, hc3⟩ := hI.at (by omega)
    have x0 : w.cell? ⟨b3, o3, none⟩ = some (.int .i64 (t.getD 0 0)) := hc3 0 (by omega)
    rw [ha3, hl]
    clear hc3 hl ht hI ha3
    have hne : b3 ≠ w.heap.size := by omega
    have hne2 : b3 ≠ w.heap.size + 1 := by omega
    generalize t.getD 0 0 = y0 at x0 ⊢
    go_enter Try.func71, Try.ntmps71
    go_wp2_with fail
    go_region
    all_goals
      go_wp2
      go_ret
      exact GiveInts.new (NewInts.ofg [y0, y0] _ _ (by simp)) HE.out.drew
  by_cases h8 : c = 8
  · subst h8
    show Calls _ _ _ _ (GiveInts [t.getD 1 0, t.getD 0 0] w)
    have hl : t.length = 2 := ht
    obtain ⟨b3, o3, ha3, hb3, hc3⟩ := hI.at (by omega)
    have x0 : w.cell? ⟨b3, o3, none⟩ = some (.int .i64 (t.getD 0 0)) := hc3 0 (by omega)
    have x1 : w.cell? ⟨b3, o3 + 1, none⟩ = some (.int .i64 (t.getD 1 0)) := hc3 1 (by omega)
    rw [ha3, hl]
    clear hc3 hl ht hI ha3
    have hne : b3 ≠ w.heap.size := by omega
    have hne2 : b3 ≠ w.heap.size + 1 := by omega
    generalize t.getD 0 0 = y0 at x0 ⊢
    generalize t.getD 1 0 = y1 at x1 ⊢
    go_enter Try.func71, Try.ntmps71
    go_wp2_with fail
    go_region
    all_goals
      go_wp2
      go_ret
      exact GiveInts.new (NewInts.ofg [y1, y0] _ _ (by simp)) HE.out.drew
  by_cases h1 : c = 1
  · subst h1
    show Calls _ _ _ _ (GiveInts [1] w)
    go_enter Try.func71, Try.ntmps71
    go_wp2
    go_ret
    exact GiveInts.new (NewInts.ofg [1] _ _ (by simp)) HE.out
  by_cases h2 : c = 2
  · subst h2
    show Calls _ _ _ _ (GiveInts [1] w)
    go_enter Try.func71, Try.ntmps71
    go_wp2
    go_ret
    exact GiveInts.new (NewInts.ofg [1] _ _ (by simp)) HE.out
  by_cases h20 : c = 20
  · subst h20
    show Calls _ _ _ _ (GiveInts [1] w)
    go_enter Try.func71, Try.ntmps71
    go_wp2
    go_ret
    exact GiveInts.new (NewInts.ofg [1] _ _ (by simp)) HE.out
  by_cases h23 : c = 23
  · subst h23
    show Calls _ _ _ _ (GiveInts [1] w)
    go_enter Try.func71, Try.ntmps71
    go_wp2
    go_ret
    exact GiveInts.new (NewInts.ofg [1] _ _ (by simp)) HE.out
  by_cases h24 : c = 24
  · subst h24
    show Calls _ _ _ _ (GiveInts [1] w)
    go_enter Try.func71, Try.ntmps71
    go_wp2
    go_ret
    exact GiveInts.new (NewInts.ofg [1] _ _ (by simp)) HE.out
  by_cases h35 : c = 35
  · subst h35
    show Calls _ _ _ _ (GiveInts [1] w)
    go_enter Try.func71, Try.ntmps71
    go_wp2
    go_ret
    exact GiveInts.new (NewInts.ofg [1] _ _ (by simp)) HE.out
  by_cases h38 : c = 38
  · subst h38
    show Calls _ _ _ _ (GiveInts [1] w)
    go_enter Try.func71, Try.ntmps71
    go_wp2
    go_ret
    exact GiveInts.new (NewInts.ofg [1] _ _ (by simp)) HE.out
  by_cases h3 : c = 3
  · subst h3
    show Calls _ _ _ _ (GiveInts [2] w)
    go_enter Try.func71, Try.ntmps71
    go_wp2
    go_ret
    exact GiveInts.new (NewInts.ofg [2] _ _ (by simp)) HE.out
  by_cases h29 : c = 29
  · subst h29
    show Calls _ _ _ _ (GiveInts [2] w)
    go_enter Try.func71, Try.ntmps71
    go_wp2
    go_ret
    exact GiveInts.new (NewInts.ofg [2] _ _ (by simp)) HE.out
  by_cases h32 : c = 32
  · subst h32
    show Calls _ _ _ _ (GiveInts [2] w)
    go_enter Try.func71, Try.ntmps71
    go_wp2
    go_ret
    exact GiveInts.new (NewInts.ofg [2] _ _ (by simp)) HE.out
  by_cases h27 : c = 27
  · subst h27
    have hi : isIn a P.nm = true := HN.out
    obtain ⟨k, rfl, hk⟩ := isIn_y hi
    clear hi
    show Calls _ _ _ _ (GiveInts (valL (P.rt (k : Int).toNat)) w)
    rw [show ((k : Int).toNat) = k from Int.toNat_natCast k]
    obtain ⟨x0, x1, x2, x3, x4⟩ := HM.out k hk
    have hi2 : (k : Int) < P.nm := by omega
    rw [HMa.out] at HE ⊢
    have hne : bm ≠ w.heap.size := by omega
    have hne2 : bm ≠ w.heap.size + 1 := by omega
    go_enter Try.func71, Try.ntmps71
    go_wp2_with fail
    refine (valueOf_c _ _).mono ?_
    rintro e w1 ⟨a', c', rfl, h2, h3, _, h4⟩
    have HW := Lib.hid (And.intro h2 (And.intro h3 (HE.out.trans (h4.mono HE.out.size))))
    clear h2 h3 h4 x0 x1 x2 x3 x4
    go_wp2
    go_ret
    exact ⟨a', c', rfl, HW.out.1, HW.out.2.1, HW.out.2.2⟩
  by_cases h30 : c = 30
  · subst h30
    have hN : (isIn a P.nc && isIn b (P.nf a.toNat)) = true := HN.out
    obtain ⟨ha, hb⟩ := Bool.and_eq_true_iff.1 hN
    obtain ⟨k, rfl, hk⟩ := isIn_y ha
    rw [show ((k : Int).toNat) = k from Int.toNat_natCast k] at hb
    obtain ⟨j, rfl, hj⟩ := isIn_y hb
    show Calls _ _ _ _ (GiveInts [P.ft (k : Int).toNat (j : Int).toNat] w)
    rw [show ((k : Int).toNat) = k from Int.toNat_natCast k, show ((j : Int).toNat) = j from Int.toNat_natCast j]
    rcases HP.out.k with h0 | ⟨bk, ok, hka, hbk, hck⟩
    · omega
    have x0 : w.cell? ⟨bk, ok + k, none⟩ = some (.slice (A.fa k) (P.nf k) (A.fc k)) := hck k hk
    have l0 := HF.out.nf k hk
    unfold Big at l0
    rcases HP.out.f k hk with h0 | ⟨bj, oj, hja, hbj, hcj⟩
    · omega
    have x1 : w.cell? ⟨bj, oj + j * 2, none⟩ = some (.int .i64 (P.ft k j)) := (hcj j hj).1
    rw [hka] at HE ⊢
    rw [hja] at x0
    clear hck hcj hN ha hb
    have hi2 : (k : Int) < P.nc := by omega
    have hi3 : (j : Int) < P.nf k := by omega
    have hne : bk ≠ w.heap.size := by omega
    have hne2 : bk ≠ w.heap.size + 1 := by omega
    have hne3 : bj ≠ w.heap.size := by omega
    have hne4 : bj ≠ w.heap.size + 1 := by omega
    generalize P.ft k j = x at x1 ⊢
    generalize P.nf k = nf at x0 l0 hj hi3 ⊢
    go_enter Try.func71, Try.ntmps71
    go_wp2_with fail
    go_region
    all_goals
      go_wp2
      go_ret
      exact GiveInts.new (NewInts.ofg [x] _ _ (by simp)) HE.out.drew
  by_cases h33 : c = 33
  · subst h33
    show Calls _ _ _ _ (GiveInts [a] w)
    go_enter Try.func71, Try.ntmps71
    go_wp2
    go_ret
    exact GiveInts.new (NewInts.ofg [a] _ _ (by simp)) HE.out
  have d4 : ((c : Int) == 4) = false := eqB_n h4
  have d6 : ((c : Int) == 6) = false := eqB_n h6
  have d8 : ((c : Int) == 8) = false := eqB_n h8
  have d1 : ((c : Int) == 1) = false := eqB_n h1
  have d2 : ((c : Int) == 2) = false := eqB_n h2
  have d20 : ((c : Int) == 20) = false := eqB_n h20
  have d23 : ((c : Int) == 23) = false := eqB_n h23
  have d24 : ((c : Int) == 24) = false := eqB_n h24
  have d35 : ((c : Int) == 35) = false := eqB_n h35
  have d38 : ((c : Int) == 38) = false := eqB_n h38
  have d3 : ((c : Int) == 3) = false := eqB_n h3
  have d29 : ((c : Int) == 29) = false := eqB_n h29
  have d32 : ((c : Int) == 32) = false := eqB_n h32
  have d27 : ((c : Int) == 27) = false := eqB_n h27
  have d30 : ((c : Int) == 30) = false := eqB_n h30
  have d33 : ((c : Int) == 33) = false := eqB_n h33
  by_cases hs : isSum c = true
  · rw [show puts P m c a b t = [1] from by unfold puts; simp only [h4, h6, h8, h1, h2, h20, h23, h24, h35, h38, h3, h29, h32, h27, h30, h33, hs, or_false, if_false, if_true]]
    have HS : Hid (∀ V, Calls Try.prog 100 #[.int .i64 c] V fun e w' => e = .returned (.bool true) ∧ w' = V) := Lib.hid fun V => hs ▸ isSum_c c V (by omega)
    clear hs h4 h6 h8 h1 h2 h20 h23 h24 h35 h38 h3 h29 h32 h27 h30 h33
    go_enter Try.func71, Try.ntmps71
    go_wp2_with fail
    refine (HS.out _).mono ?_
    rintro e w' ⟨rfl, rfl⟩
    go_wp2
    go_ret
    exact GiveInts.new (NewInts.ofg [1] _ _ (by simp)) HE.out
  · have hs : isSum c = false := by simpa using hs
    rw [show puts P m c a b t = [] from by unfold puts; simp only [h4, h6, h8, h1, h2, h20, h23, h24, h35, h38, h3, h29, h32, h27, h30, h33, hs, or_false, if_false, Bool.false_eq_true]]
    have HS : Hid (∀ V, Calls Try.prog 100 #[.int .i64 c] V fun e w' => e = .returned (.bool false) ∧ w' = V) := Lib.hid fun V => hs ▸ isSum_c c V (by omega)
    clear hs h4 h6 h8 h1 h2 h20 h23 h24 h35 h38 h3 h29 h32 h27 h30 h33
    go_enter Try.func71, Try.ntmps71
    go_wp2_with fail
    refine (HS.out _).mono ?_
    rintro e w' ⟨rfl, rfl⟩
    go_wp2
    go_ret
    exact GiveInts.new (NewInts.nil0 _) HE.out
end Go.Proofs.Ytpiafgmncfibmaa.Vf
