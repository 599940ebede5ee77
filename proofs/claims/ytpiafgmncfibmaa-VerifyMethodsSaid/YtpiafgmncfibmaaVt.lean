import Derived.Laws.BitsLemmas
import Derived.IntWalk
import Derived.Laws.BitsAllLaws
import Derived.Deep.DrawnRows
import Derived.Test.YtpiafgmncfibmaaVm
import Derived.Test.YtpiafgmncfibmaaRows
import Derived.WalkKit
import Derived.ProofKit
import Derived.OpenShut
import Derived.Deep.QuietTactic
import Derived.BigQuiet
import Derived.Outline
import Derived.WalkSmall
import Derived.WalkLawsBesides
import Derived.WalkSpells
import Derived.BigGuardPart
import Derived.RegionTactic
import Derived.Deep.RegionHeld3
import Derived.Lib.Hide
import Derived.Deep.MidRow
import Derived.Below
import Derived.Deep.RegionWith
import Derived.Deep.OwnRows
import Derived.Deep.AppendLies
import Derived.Deep.RegionLaw
import Derived.Deep.CutBlock
import Derived.Deep.DeepCutAuto
namespace Go.Proofs.Ytpiafgmncfibmaa.Vf
open Go.ChangeShapes Go.WideShapes Go.ChangeAt Go.RowKit
set_option linter.unusedVariables false

def GiveInts (l : List Int) (w : World) (e : Ending) (w' : World) : Prop := ∃ a c, e = .returned (.slice a l.length c) ∧ Ints w' a l ∧ l.length ≤ c ∧ Below w.heap.size w w'
theorem NewInts.ofg (l : List Int) (w : World) (g : Nat) (hg : w.heap.size = g) : NewInts l w (.returned (.slice (some ⟨g, 0, none⟩) l.length l.length)) (w.alloc (.cells (l.map (.int .i64)).toArray 3)) := hg ▸ NewInts.of l w
theorem GiveInts.new {l : List Int} {w w1 w' : World} {e : Ending} (h : NewInts l w1 e w') (hb : Below w.heap.size w w1) : GiveInts l w e w' := by
  obtain ⟨a, c, h1, h2, h3, h4, h5⟩ := h
  exact ⟨a, c, h1, h2, h3, hb.trans (h5.mono hb.size)⟩
theorem Ints.of_row {w : World} {a : Option Addr} {n : Nat} {F : Nat → Int} (h : Row1 w a n fun i => .int .i64 (F i)) : Ints w a ((List.range n).map F) := by
  have hl : ((List.range n).map F).length = n := by simp
  unfold Ints
  rw [hl]
  rcases h with h | ⟨b, o, ha, hb, hc⟩
  · exact .inl h
  · refine .inr ⟨b, o, ha, hb, fun i hi => ?_⟩
    rw [hc i hi]
    have : ((List.range n).map F)[i]? = some (F i) := by rw [List.getElem?_map, List.getElem?_range hi]; rfl
    show some (Value.int .i64 (F i)) = some (Value.int .i64 (((List.range n).map F).getD i 0))
    rw [List.getD_eq_getElem?_getD, this]; rfl

set_option maxRecDepth 100000 in
set_option maxHeartbeats 4000000 in
theorem takes_c (P : Pg) (A : Ad) (m c : Nat) (a b : Int) (sz : Int) (w : World) (h : PgAt w P A) (hf : Fits P A) (hca : Caps P A) (hm : m < P.nm) (hN : nmB P m c a b = true) (hc41 : c < 41) : Calls Try.prog 70 #[.agg (P.cells A), .int .i64 m, .agg (ret4 c a b sz)] w (GiveInts (takes P m c a b) w) := by
  have HP := Lib.hid h
  have HF := Lib.hid hf
  have HCap := Lib.hid hca
  have HN := Lib.hid hN
  have hE : Below w.heap.size w ((w.alloc (.cells (P.cells A) 26)).alloc (.cells (ret4 c a b sz) 74)) := ((Below.refl _ _).alloc (Nat.le_refl _) _).alloc (by simp) _
  obtain ⟨bm, om, hma, hbm, hcm⟩ := h.m.resolve_left (by omega)
  have HM : Hid (∀ i, i < P.nm → _) := Lib.hid hcm
  have HMa := Lib.hid hma
  have hnm := hf.nm
  have hnc := hf.nc
  unfold Big at hnm hnc
  clear h hf hcm hca hN
  have HE := Lib.hid hE
  clear hE hma
  show Calls Try.prog 70 #[.agg #[.slice A.pa P.np A.pc, .slice A.ca P.nc A.cc, .slice A.ma P.nm A.mc], .int .i64 m, .agg #[.int .i64 c, .int .i64 a, .int .i64 b, .int .i64 sz]] w _
  replace HE : Hid (Below w.heap.size w ((w.alloc (.cells #[.slice A.pa P.np A.pc, .slice A.ca P.nc A.cc, .slice A.ma P.nm A.mc] 26)).alloc (.cells #[.int .i64 c, .int .i64 a, .int .i64 b, .int .i64 sz] 74))) := HE
  by_cases h5 : c = 5
  · subst h5
    have hi : isIn a (P.pn m + P.ln m) = true := HN.out
    obtain ⟨k, rfl, hk⟩ := isIn_y hi
    clear hi
    show Calls _ _ _ _ (GiveInts [loc P m (k : Int).toNat] w)
    rw [show ((k : Int).toNat) = k from Int.toNat_natCast k]
    obtain ⟨x0, x1, x2, x3, x4⟩ := HM.out m hm
    have HL : Hid (∀ V, Below w.heap.size w V → Calls Try.prog 98 #[.agg #[.slice (A.ppa m) (P.pn m) (A.ppc m), .int .i64 (P.rt m), .slice (A.lla m) (P.ln m) (A.llc m), .int .i64 (P.sk m), .slice (A.cda m) (P.cn m) (A.cdc m)], .int .i64 (k : Int)] V fun e w' => e = .returned (.int .i64 (loc P m k)) ∧ Below V.heap.size V w') := Lib.hid fun V hV => local_c P A m k V ((HP.out.a m hm).kept (Kept.of hV)) ((HP.out.l m hm).kept (Kept.of hV)) (HF.out.pn m hm) hk (HF.out.ln m hm)
    rw [HMa.out] at HE ⊢
    have hi2 : (m : Int) < P.nm := by omega
    have hne : bm ≠ w.heap.size := by omega
    have hne2 : bm ≠ w.heap.size + 1 := by omega
    generalize loc P m k = x at HL ⊢
    go_enter Try.func70, Try.ntmps70
    go_wp2_with fail
    go_region_with ((go_at_call 98; refine (HL.out _ HE.out.drew).mono ?_; rintro e w1 ⟨rfl, hb1⟩))
    all_goals
      go_wp2
      go_ret
      exact GiveInts.new (NewInts.ofg [x] _ _ (by simp)) (HE.out.drew.trans (hb1.mono HE.out.size))
  by_cases h6 : c = 6
  · subst h6
    show Calls _ _ _ _ (GiveInts [-1] w)
    go_enter Try.func70, Try.ntmps70
    go_wp2
    go_ret
    exact GiveInts.new (NewInts.ofg [-1] _ _ (by simp)) HE.out
  by_cases h7 : c = 7
  · subst h7
    show Calls _ _ _ _ (GiveInts [-1] w)
    go_enter Try.func70, Try.ntmps70
    go_wp2
    go_ret
    exact GiveInts.new (NewInts.ofg [-1] _ _ (by simp)) HE.out
  by_cases h8 : c = 8
  · subst h8
    show Calls _ _ _ _ (GiveInts [-1, -1] w)
    go_enter Try.func70, Try.ntmps70
    go_wp2
    go_ret
    exact GiveInts.new (NewInts.ofg [-1, -1] _ _ (by simp)) HE.out
  by_cases h20 : c = 20
  · subst h20
    show Calls _ _ _ _ (GiveInts [1] w)
    go_enter Try.func70, Try.ntmps70
    go_wp2
    go_ret
    exact GiveInts.new (NewInts.ofg [1] _ _ (by simp)) HE.out
  by_cases h26 : c = 26
  · subst h26
    show Calls _ _ _ _ (GiveInts [1] w)
    go_enter Try.func70, Try.ntmps70
    go_wp2
    go_ret
    exact GiveInts.new (NewInts.ofg [1] _ _ (by simp)) HE.out
  by_cases h32 : c = 32
  · subst h32
    show Calls _ _ _ _ (GiveInts [1] w)
    go_enter Try.func70, Try.ntmps70
    go_wp2
    go_ret
    exact GiveInts.new (NewInts.ofg [1] _ _ (by simp)) HE.out
  by_cases h39 : c = 39
  · subst h39
    show Calls _ _ _ _ (GiveInts [1] w)
    go_enter Try.func70, Try.ntmps70
    go_wp2
    go_ret
    exact GiveInts.new (NewInts.ofg [1] _ _ (by simp)) HE.out
  by_cases h40 : c = 40
  · subst h40
    show Calls _ _ _ _ (GiveInts [1] w)
    go_enter Try.func70, Try.ntmps70
    go_wp2
    go_ret
    exact GiveInts.new (NewInts.ofg [1] _ _ (by simp)) HE.out
  by_cases h23 : c = 23
  · subst h23
    show Calls _ _ _ _ (GiveInts [2, 2] w)
    go_enter Try.func70, Try.ntmps70
    go_wp2
    go_ret
    exact GiveInts.new (NewInts.ofg [2, 2] _ _ (by simp)) HE.out
  by_cases h24 : c = 24
  · subst h24
    show Calls _ _ _ _ (GiveInts [2] w)
    go_enter Try.func70, Try.ntmps70
    go_wp2
    go_ret
    exact GiveInts.new (NewInts.ofg [2] _ _ (by simp)) HE.out
  by_cases h30 : c = 30
  · subst h30
    show Calls _ _ _ _ (GiveInts [2] w)
    go_enter Try.func70, Try.ntmps70
    go_wp2
    go_ret
    exact GiveInts.new (NewInts.ofg [2] _ _ (by simp)) HE.out
  by_cases h35 : c = 35
  · subst h35
    show Calls _ _ _ _ (GiveInts [2] w)
    go_enter Try.func70, Try.ntmps70
    go_wp2
    go_ret
    exact GiveInts.new (NewInts.ofg [2] _ _ (by simp)) HE.out
  by_cases h36 : c = 36
  · subst h36
    show Calls _ _ _ _ (GiveInts [2] w)
    go_enter Try.func70, Try.ntmps70
    go_wp2
    go_ret
    exact GiveInts.new (NewInts.ofg [2] _ _ (by simp)) HE.out
  by_cases h37 : c = 37
  · subst h37
    show Calls _ _ _ _ (GiveInts [2] w)
    go_enter Try.func70, Try.ntmps70
    go_wp2
    go_ret
    exact GiveInts.new (NewInts.ofg [2] _ _ (by simp)) HE.out
  by_cases h38 : c = 38
  · subst h38
    show Calls _ _ _ _ (GiveInts [2] w)
    go_enter Try.func70, Try.ntmps70
    go_wp2
    go_ret
    exact GiveInts.new (NewInts.ofg [2] _ _ (by simp)) HE.out
  by_cases h27 : c = 27
  · subst h27
    have hi : isIn a P.nm = true := HN.out
    obtain ⟨k, rfl, hk⟩ := isIn_y hi
    clear hi
    show Calls _ _ _ _ (GiveInts (parL P (k : Int).toNat) w)
    rw [show ((k : Int).toNat) = k from Int.toNat_natCast k]
    obtain ⟨x0, x1, x2, x3, x4⟩ := HM.out k hk
    have hi2 : (k : Int) < P.nm := by omega
    have HI : Hid (Ints w (A.ppa k) (parL P k)) := Lib.hid (Ints.of_row (HP.out.a k hk))
    have HL : Hid (P.pn k = (parL P k).length) := Lib.hid (by simp [parL])
    have HC := Lib.hid (HCap.out.a k hk)
    rw [HMa.out] at HE ⊢
    have hne : bm ≠ w.heap.size := by omega
    have hne2 : bm ≠ w.heap.size + 1 := by omega
    go_enter Try.func70, Try.ntmps70
    go_wp2
    go_ret
    exact ⟨A.ppa k, A.ppc k, by rw [← HL.out]; rfl, HI.out.kept (Kept.of HE.out), by rw [← HL.out]; exact HC.out, HE.out⟩
  by_cases h28 : c = 28
  · subst h28
    show Calls _ _ _ _ (GiveInts (valL (P.rt m)) w)
    obtain ⟨x0, x1, x2, x3, x4⟩ := HM.out m hm
    have hi2 : (m : Int) < P.nm := by omega
    rw [HMa.out] at HE ⊢
    have hne : bm ≠ w.heap.size := by omega
    have hne2 : bm ≠ w.heap.size + 1 := by omega
    go_enter Try.func70, Try.ntmps70
    go_wp2_with fail
    refine (valueOf_c _ _).mono ?_
    rintro e w1 ⟨a', c', rfl, h2, h3, _, h4⟩
    have HW := Lib.hid (And.intro h2 (And.intro h3 (HE.out.trans (h4.mono HE.out.size))))
    clear h2 h3 h4 x0 x1 x2 x3 x4
    go_wp2
    go_ret
    exact ⟨a', c', rfl, HW.out.1, HW.out.2.1, HW.out.2.2⟩
  by_cases h31 : c = 31
  · subst h31
    have hN : (isIn a P.nc && isIn b (P.nf a.toNat)) = true := HN.out
    obtain ⟨ha, hb⟩ := Bool.and_eq_true_iff.1 hN
    obtain ⟨k, rfl, hk⟩ := isIn_y ha
    rw [show ((k : Int).toNat) = k from Int.toNat_natCast k] at hb
    obtain ⟨j, rfl, hj⟩ := isIn_y hb
    show Calls _ _ _ _ (GiveInts [2, P.ft (k : Int).toNat (j : Int).toNat] w)
    rw [show ((k : Int).toNat) = k from Int.toNat_natCast k, show ((j : Int).toNat) = j from Int.toNat_natCast j]
    rcases HP.out.k with h0 | ⟨bk, ok, hka, hbk, hck⟩
    · omega
    have x0 : w.cell? ⟨bk, ok + k, none⟩ = some (.slice (A.fa k) (P.nf k) (A.fc k)) := hck k hk
    have l0 := HF.out.nf k hk
    unfold Big at l0
    rcases HP.out.f k hk with h0 | ⟨bj, oj, hja, hbj, hcj⟩
    · omega
    have x1 : w.cell? ⟨bj, oj + j * 2, none⟩ = some (.int .i64 (P.ft k j)) := (hcj j hj).1
    rw [hka] at HE ⊢
    rw [hja] at x0
    clear hck hcj hN ha hb
    have hi2 : (k : Int) < P.nc := by omega
    have hi3 : (j : Int) < P.nf k := by omega
    have hne : bk ≠ w.heap.size := by omega
    have hne2 : bk ≠ w.heap.size + 1 := by omega
    have hne3 : bj ≠ w.heap.size := by omega
    have hne4 : bj ≠ w.heap.size + 1 := by omega
    generalize P.ft k j = x at x1 ⊢
    generalize P.nf k = nf at x0 l0 hj hi3 ⊢
    go_enter Try.func70, Try.ntmps70
    go_wp2_with fail
    go_region
    all_goals
      go_wp2
      go_ret
      exact GiveInts.new (NewInts.ofg [2, x] _ _ (by simp)) HE.out.drew
  by_cases h33 : c = 33
  · subst h33
    show Calls _ _ _ _ (GiveInts [2, 1] w)
    go_enter Try.func70, Try.ntmps70
    go_wp2
    go_ret
    exact GiveInts.new (NewInts.ofg [2, 1] _ _ (by simp)) HE.out
  by_cases h34 : c = 34
  · subst h34
    show Calls _ _ _ _ (GiveInts [2, 1, a] w)
    go_enter Try.func70, Try.ntmps70
    go_wp2
    go_ret
    exact GiveInts.new (NewInts.ofg [2, 1, a] _ _ (by simp)) HE.out
  have d5 : ((c : Int) == 5) = false := eqB_n h5
  have d6 : ((c : Int) == 6) = false := eqB_n h6
  have d7 : ((c : Int) == 7) = false := eqB_n h7
  have d8 : ((c : Int) == 8) = false := eqB_n h8
  have d20 : ((c : Int) == 20) = false := eqB_n h20
  have d26 : ((c : Int) == 26) = false := eqB_n h26
  have d32 : ((c : Int) == 32) = false := eqB_n h32
  have d39 : ((c : Int) == 39) = false := eqB_n h39
  have d40 : ((c : Int) == 40) = false := eqB_n h40
  have d23 : ((c : Int) == 23) = false := eqB_n h23
  have d24 : ((c : Int) == 24) = false := eqB_n h24
  have d30 : ((c : Int) == 30) = false := eqB_n h30
  have d35 : ((c : Int) == 35) = false := eqB_n h35
  have d36 : ((c : Int) == 36) = false := eqB_n h36
  have d37 : ((c : Int) == 37) = false := eqB_n h37
  have d38 : ((c : Int) == 38) = false := eqB_n h38
  have d27 : ((c : Int) == 27) = false := eqB_n h27
  have d28 : ((c : Int) == 28) = false := eqB_n h28
  have d31 : ((c : Int) == 31) = false := eqB_n h31
  have d33 : ((c : Int) == 33) = false := eqB_n h33
  have d34 : ((c : Int) == 34) = false := eqB_n h34
  by_cases hs : isSum c = true
  · rw [show takes P m c a b = [1, 1] from by unfold takes; simp only [h5, h6, h7, h8, h20, h26, h32, h39, h40, h23, h24, h30, h35, h36, h37, h38, h27, h28, h31, h33, h34, hs, or_false, if_false, if_true]]
    have HS : Hid (∀ V, Calls Try.prog 100 #[.int .i64 c] V fun e w' => e = .returned (.bool true) ∧ w' = V) := Lib.hid fun V => hs ▸ isSum_c c V (by omega)
    clear hs h5 h6 h7 h8 h20 h26 h32 h39 h40 h23 h24 h30 h35 h36 h37 h38 h27 h28 h31 h33 h34
    go_enter Try.func70, Try.ntmps70
    go_wp2_with fail
    refine (HS.out _).mono ?_
    rintro e w' ⟨rfl, rfl⟩
    go_wp2
    go_ret
    exact GiveInts.new (NewInts.ofg [1, 1] _ _ (by simp)) HE.out
  · have hs : isSum c = false := by simpa using hs
    rw [show takes P m c a b = [] from by unfold takes; simp only [h5, h6, h7, h8, h20, h26, h32, h39, h40, h23, h24, h30, h35, h36, h37, h38, h27, h28, h31, h33, h34, hs, or_false, if_false, Bool.false_eq_true]]
    have HS : Hid (∀ V, Calls Try.prog 100 #[.int .i64 c] V fun e w' => e = .returned (.bool false) ∧ w' = V) := Lib.hid fun V => hs ▸ isSum_c c V (by omega)
    clear hs h5 h6 h7 h8 h20 h26 h32 h39 h40 h23 h24 h30 h35 h36 h37 h38 h27 h28 h31 h33 h34
    go_enter Try.func70, Try.ntmps70
    go_wp2_with fail
    refine (HS.out _).mono ?_
    rintro e w' ⟨rfl, rfl⟩
    go_wp2
    go_ret
    exact GiveInts.new (NewInts.nil0 _) HE.out
end Go.Proofs.Ytpiafgmncfibmaa.Vf
