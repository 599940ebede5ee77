import Derived.Laws.BitsLemmas
import Derived.IntWalk
import Derived.Laws.BitsAllLaws
import Derived.Deep.DrawnRows
import Derived.Test.YtpiafgmncfibmaaXe
import Derived.Test.YtpiafgmncfibmaaRows
import Derived.WalkKit
import Derived.ProofKit
import Derived.OpenShut
import Derived.Deep.QuietTactic
import Derived.BigQuiet
import Derived.Outline
import Derived.WalkSmall
import Derived.WalkLawsBesides
import Derived.WalkSpells
import Derived.BigGuardPart
import Derived.RegionTactic
import Derived.Deep.RegionHeld3
import Derived.Lib.Hide
import Derived.Deep.MidRow
import Derived.Below
import Derived.Deep.RegionWith
import Derived.Deep.OwnRows
import Derived.Deep.AppendLies
import Derived.Deep.RegionLaw
import Derived.Deep.CutBlock
import Derived.Deep.DeepCutAuto
namespace Go.Proofs.Ytpiafgmncfibmaa.Vf
open Go.ChangeShapes Go.WideShapes Go.ChangeAt Go.RowKit
set_option linter.unusedVariables false

def Give2 (l1 l2 : List Int) (w : World) (e : Ending) (w' : World) : Prop := ∃ a1 c1 a2 c2, e = .returned (.tuple #[.slice a1 l1.length c1, .slice a2 l2.length c2]) ∧ Ints w' a1 l1 ∧ Ints w' a2 l2 ∧ l1.length ≤ c1 ∧ l2.length ≤ c2 ∧ Below w.heap.size w w'
theorem Ints.ofg (l : List Int) (w : World) (g : Nat) (hg : w.heap.size = g) : Ints (w.alloc (.cells (l.map (.int .i64)).toArray 3)) (some ⟨g, 0, none⟩) l := by
  obtain ⟨a, c, h1, h2, _⟩ := NewInts.ofg l w g hg
  injection h1 with h1
  injection h1 with h1 _ _
  subst h1
  exact h2
theorem Give2.nn {w w' : World} (hb : Below w.heap.size w w') : Give2 [] [] w (.returned (.tuple #[.slice none 0 0, .slice none 0 0])) w' := ⟨none, 0, none, 0, rfl, Ints.nil _ _, Ints.nil _ _, Nat.le_refl _, Nat.le_refl _, hb⟩
theorem Give2.lf (l : List Int) {w : World} (W : World) (g : Nat) (hg : W.heap.size = g) (hb : Below w.heap.size w W) : Give2 l [] w (.returned (.tuple #[.slice (some ⟨g, 0, none⟩) l.length l.length, .slice none 0 0])) (W.alloc (.cells (l.map (.int .i64)).toArray 3)) :=
  ⟨_, _, none, 0, rfl, Ints.ofg l W g hg, Ints.nil _ _, Nat.le_refl _, Nat.le_refl _, hb.alloc hb.size _⟩
theorem Give2.rt (l : List Int) {w : World} (W : World) (g : Nat) (hg : W.heap.size = g) (hb : Below w.heap.size w W) : Give2 [] l w (.returned (.tuple #[.slice none 0 0, .slice (some ⟨g, 0, none⟩) l.length l.length])) (W.alloc (.cells (l.map (.int .i64)).toArray 3)) :=
  ⟨none, 0, _, _, rfl, Ints.nil _ _, Ints.ofg l W g hg, Nat.le_refl _, Nat.le_refl _, hb.alloc hb.size _⟩
theorem Ints.alloc {w : World} {a : Option Addr} {l : List Int} (h : Ints w a l) (o : Obj) : Ints (w.alloc o) a l := h.kept (Kept.of ((Below.refl w.heap.size w).alloc (Nat.le_refl _) o))
theorem Give2.lr (l m : List Int) {w : World} (W : World) (g : Nat) (hg : W.heap.size = g) (hb : Below w.heap.size w W) : Give2 l m w (.returned (.tuple #[.slice (some ⟨g, 0, none⟩) l.length l.length, .slice (some ⟨g + 1, 0, none⟩) m.length m.length])) ((W.alloc (.cells (l.map (.int .i64)).toArray 3)).alloc (.cells (m.map (.int .i64)).toArray 3)) :=
  ⟨_, _, _, _, rfl, (Ints.ofg l W g hg).alloc _, Ints.ofg m _ (g + 1) (by rw [World.size_alloc, hg]), Nat.le_refl _, Nat.le_refl _, (hb.alloc hb.size _).alloc (hb.alloc hb.size _).size _⟩
theorem Give2.rl (l m : List Int) {w : World} (W : World) (g : Nat) (hg : W.heap.size = g) (hb : Below w.heap.size w W) : Give2 l m w (.returned (.tuple #[.slice (some ⟨g + 1, 0, none⟩) l.length l.length, .slice (some ⟨g, 0, none⟩) m.length m.length])) ((W.alloc (.cells (m.map (.int .i64)).toArray 3)).alloc (.cells (l.map (.int .i64)).toArray 3)) :=
  ⟨_, _, _, _, rfl, Ints.ofg l _ (g + 1) (by rw [World.size_alloc, hg]), (Ints.ofg m W g hg).alloc _, Nat.le_refl _, Nat.le_refl _, (hb.alloc hb.size _).alloc (hb.alloc hb.size _).size _⟩
theorem getD_map_range (n k : Nat) (F : Nat → Int) (hk : k < n) : ((List.range n).map F).getD k 0 = F k := by
  rw [List.getD_eq_getElem?_getD, List.getElem?_map, List.getElem?_range hk]; rfl
theorem loc_getD (P : Pg) (m k : Nat) (hk : k < P.pn m + P.ln m) : ((List.range (P.pn m)).map (P.pt m) ++ (List.range (P.ln m)).map (P.lt m)).getD k 0 = loc P m k := by
  unfold loc
  by_cases h : k < P.pn m
  · rw [if_pos h, List.getD_eq_getElem?_getD, List.getElem?_append_left (by simpa using h), ← List.getD_eq_getElem?_getD, getD_map_range _ _ _ h]
  · rw [if_neg h, List.getD_eq_getElem?_getD, List.getElem?_append_right (by simpa using Nat.le_of_not_lt h), ← List.getD_eq_getElem?_getD]
    rw [List.length_map, List.length_range, getD_map_range _ _ _ (by omega)]
theorem locals_k (P : Pg) (A : Ad) (m k : Nat) (w : World) (h1 : RowA w P A m) (h2 : RowL w P A m) (m1 : P.pn m ≤ 30000) (m2 : P.ln m ≤ 30000) (hk : k < P.pn m + P.ln m) : Calls Try.prog 113 #[.agg #[.slice (A.ppa m) (P.pn m) (A.ppc m), .int .i64 (P.rt m), .slice (A.lla m) (P.ln m) (A.llc m), .int .i64 (P.sk m), .slice (A.cda m) (P.cn m) (A.cdc m)]] w fun e w' => (∃ b' o' c', e = .returned (.slice (some ⟨b', o', none⟩) (P.pn m + P.ln m) c') ∧ w'.cell? ⟨b', o' + k, none⟩ = some (.int .i64 (loc P m k))) ∧ Below w.heap.size w w' := by
  have h := locals_c (A.ppa m) (A.lla m) (A.cda m) (A.ppc m) (A.llc m) (P.cn m) (A.cdc m) (P.rt m) (P.sk m) ((List.range (P.pn m)).map (P.pt m)) ((List.range (P.ln m)).map (P.lt m)) w (Ints.of_row h1) (Ints.of_row h2) (by simpa using m1) (by simpa using m2)
  have hl : ((List.range (P.pn m)).map (P.pt m) ++ (List.range (P.ln m)).map (P.lt m)).length = P.pn m + P.ln m := by simp
  simp only [List.length_map, List.length_range] at h
  refine h.mono fun e w' hN => ?_
  obtain ⟨a', c', h1, h2, _, _, h5⟩ := hN
  obtain ⟨b', o', rfl, _, hc⟩ := h2.at (by rw [hl]; omega)
  rw [hl] at h1 hc
  exact ⟨⟨b', o', c', h1, by rw [hc k hk, loc_getD P m k hk]⟩, h5⟩
set_option maxRecDepth 100000 in
set_option maxHeartbeats 8000000 in
theorem effect_r (P : Pg) (A : Ad) (m c : Nat) (a b : Int) (sz : Int) (w : World) (h : PgAt w P A) (hf : Fits P A) (hca : Caps P A) (hm : m < P.nm) (hN : nmB P m c a b = true) (hc41 : c < 41) (h6 : c ≠ 6) (h7 : c ≠ 7) (h8 : c ≠ 8) (hpl : P.pn m + P.ln m ≤ 40) : Calls Try.prog 125 #[.agg (P.cells A), .int .i64 m, .agg (ret4 c a b sz)] w (Give2 (takes P m c a b) (puts P m c a b []) w) := by
  have HP := Lib.hid h
  have HF := Lib.hid hf
  have HCap := Lib.hid hca
  have HN := Lib.hid hN
  have hE : Below w.heap.size w ((w.alloc (.cells (P.cells A) 26)).alloc (.cells (ret4 c a b sz) 141)) := ((Below.refl _ _).alloc (Nat.le_refl _) _).alloc (by simp) _
  obtain ⟨bm, om, hma, hbm, hcm⟩ := h.m.resolve_left (by omega)
  have HM : Hid (∀ i, i < P.nm → _) := Lib.hid hcm
  have HMa := Lib.hid hma
  have hnm := hf.nm
  have hnc := hf.nc
  unfold Big at hnm hnc
  have hp1 : P.pn m ≤ 30000 := by omega
  have hl1 : P.ln m ≤ 30000 := by omega
  clear h hf hcm hca hN
  have HE := Lib.hid hE
  clear hE hma
  show Calls Try.prog 125 #[.agg #[.slice A.pa P.np A.pc, .slice A.ca P.nc A.cc, .slice A.ma P.nm A.mc], .int .i64 m, .agg #[.int .i64 c, .int .i64 a, .int .i64 b, .int .i64 sz]] w _
  replace HE : Hid (Below w.heap.size w ((w.alloc (.cells #[.slice A.pa P.np A.pc, .slice A.ca P.nc A.cc, .slice A.ma P.nm A.mc] 26)).alloc (.cells #[.int .i64 c, .int .i64 a, .int .i64 b, .int .i64 sz] 141))) := HE
  by_cases h1 : c = 1
  · subst h1
    show Calls _ _ _ _ (Give2 [] [1] w)
    go_enter Try.func125, Try.ntmps125
    go_wp2
    go_ret2
    exact Give2.rt [1] _ _ (by simp) HE.out
  by_cases h2 : c = 2
  · subst h2
    show Calls _ _ _ _ (Give2 [] [1] w)
    go_enter Try.func125, Try.ntmps125
    go_wp2
    go_ret2
    exact Give2.rt [1] _ _ (by simp) HE.out
  by_cases h3 : c = 3
  · subst h3
    show Calls _ _ _ _ (Give2 [] [2] w)
    go_enter Try.func125, Try.ntmps125
    go_wp2
    go_ret2
    exact Give2.rt [2] _ _ (by simp) HE.out
  by_cases h29 : c = 29
  · subst h29
    show Calls _ _ _ _ (Give2 [] [2] w)
    go_enter Try.func125, Try.ntmps125
    go_wp2
    go_ret2
    exact Give2.rt [2] _ _ (by simp) HE.out
  by_cases h4 : c = 4
  · subst h4
    have hi : isIn a (P.pn m + P.ln m) = true := HN.out
    obtain ⟨k, rfl, hk⟩ := isIn_y hi
    clear hi
    show Calls _ _ _ _ (Give2 [] [loc P m (k : Int).toNat] w)
    rw [show ((k : Int).toNat) = k from Int.toNat_natCast k]
    obtain ⟨x0, x1, x2, x3, x4⟩ := HM.out m hm
    have HLo : Hid (∀ V, Below w.heap.size w V → Calls Try.prog 113 #[.agg #[.slice (A.ppa m) (P.pn m) (A.ppc m), .int .i64 (P.rt m), .slice (A.lla m) (P.ln m) (A.llc m), .int .i64 (P.sk m), .slice (A.cda m) (P.cn m) (A.cdc m)]] V fun e w' => (∃ b' o' c', e = .returned (.slice (some ⟨b', o', none⟩) (P.pn m + P.ln m) c') ∧ w'.cell? ⟨b', o' + k, none⟩ = some (.int .i64 (loc P m k))) ∧ Below V.heap.size V w') := Lib.hid fun V hV => locals_k P A m k V ((HP.out.a m hm).kept (Kept.of hV)) ((HP.out.l m hm).kept (Kept.of hV)) hp1 hl1 hk
    generalize loc P m k = x at HLo ⊢
    rw [HMa.out] at HE ⊢
    have hi : (m : Int) < P.nm := by omega
    obtain ⟨W, hW⟩ : ∃ q, q = (w.alloc (.cells #[.slice A.pa P.np A.pc, .slice A.ca P.nc A.cc, .slice (some ⟨bm, om, none⟩) P.nm A.mc] 26)).alloc (.cells #[.int .i64 4, .int .i64 k, .int .i64 b, .int .i64 sz] 141) := ⟨_, rfl⟩
    have HX : Hid (∀ V, Below W.heap.size W V → V.cell? ⟨w.heap.size + 1, 1, none⟩ = some (.int .i64 k) ∧ V.cell? ⟨w.heap.size, 2, none⟩ = some (.slice (some ⟨bm, om, none⟩) P.nm A.mc) ∧ V.cell? ⟨bm, om + m * 5, none⟩ = some (.slice (A.ppa m) (P.pn m) (A.ppc m)) ∧ V.cell? ⟨bm, om + m * 5 + 1, none⟩ = some (.int .i64 (P.rt m)) ∧ V.cell? ⟨bm, om + m * 5 + 2, none⟩ = some (.slice (A.lla m) (P.ln m) (A.llc m)) ∧ V.cell? ⟨bm, om + m * 5 + 3, none⟩ = some (.int .i64 (P.sk m)) ∧ V.cell? ⟨bm, om + m * 5 + 4, none⟩ = some (.slice (A.cda m) (P.cn m) (A.cdc m))) := Lib.hid fun V hV => by
      have h1 : Bx W w.heap.size #[.slice A.pa P.np A.pc, .slice A.ca P.nc A.cc, .slice (some ⟨bm, om, none⟩) P.nm A.mc] 26 := by rw [hW]; exact (Bx.new w _ 26).alloc _
      have h2 : Bx W (w.heap.size + 1) #[.int .i64 4, .int .i64 k, .int .i64 b, .int .i64 sz] 141 := by
        have h9 := Bx.new (w.alloc (.cells #[.slice A.pa P.np A.pc, .slice A.ca P.nc A.cc, .slice (some ⟨bm, om, none⟩) P.nm A.mc] 26)) #[.int .i64 4, .int .i64 k, .int .i64 b, .int .i64 sz] 141
        rw [World.size_alloc] at h9
        rw [hW]; exact h9
      have hb : Below w.heap.size w V := by
        have h3 : Below w.heap.size w W := by rw [hW]; exact HE.out
        exact h3.trans (hV.mono h3.size)
      exact ⟨(h2.below hV).cell 1, (h1.below hV).cell 2, (hb.cell (p := ⟨bm, om + m * 5, none⟩) hbm).trans x0, (hb.cell (p := ⟨bm, om + m * 5 + 1, none⟩) hbm).trans x1, (hb.cell (p := ⟨bm, om + m * 5 + 2, none⟩) hbm).trans x2, (hb.cell (p := ⟨bm, om + m * 5 + 3, none⟩) hbm).trans x3, (hb.cell (p := ⟨bm, om + m * 5 + 4, none⟩) hbm).trans x4⟩
    have HBW : Hid (Below w.heap.size w W) := Lib.hid (by rw [hW]; exact HE.out)
    have o0 : W.cell? ⟨w.heap.size + 1, 0, none⟩ = some (.int .i64 4) := by
      have h9 := Bx.new (w.alloc (.cells #[.slice A.pa P.np A.pc, .slice A.ca P.nc A.cc, .slice (some ⟨bm, om, none⟩) P.nm A.mc] 26)) #[.int .i64 4, .int .i64 k, .int .i64 b, .int .i64 sz] 141
      rw [World.size_alloc] at h9
      rw [hW]; exact h9.cell 0
    have HW := Lib.hid hW
    clear hW x0 x1 x2 x3 x4
    generalize P.pn m + P.ln m = N at hk HLo hpl
    have hki : (k : Int) < N := by omega
    go_enter Try.func125, Try.ntmps125
    go_upto_region 1 with fail
    rw [← HW.out]
    go_wp2_with fail
    refine region_e 12 (fun w' => w'.cell? ⟨w.heap.size + 1, 1, none⟩ = some (.int .i64 k) ∧ w'.cell? ⟨w.heap.size, 2, none⟩ = some (.slice (some ⟨bm, om, none⟩) P.nm A.mc) ∧ w'.cell? ⟨bm, om + m * 5, none⟩ = some (.slice (A.ppa m) (P.pn m) (A.ppc m)) ∧ w'.cell? ⟨bm, om + m * 5 + 1, none⟩ = some (.int .i64 (P.rt m)) ∧ w'.cell? ⟨bm, om + m * 5 + 2, none⟩ = some (.slice (A.lla m) (P.ln m) (A.llc m)) ∧ w'.cell? ⟨bm, om + m * 5 + 3, none⟩ = some (.int .i64 (P.sk m)) ∧ w'.cell? ⟨bm, om + m * 5 + 4, none⟩ = some (.slice (A.cda m) (P.cn m) (A.cdc m))) (by kernel_rfl) (HX.out _ (Below.refl _ _).drew) (fun hHeld => ?_)
    refine AnyE.take2 (i := 0) [] (oi := { dst := some 25, op := Go.Op.fieldAddr 26 (Go.Operand.tmp 3) 2, type := 0, pos := "ref.go:71", after := #[], guard := none }) (v := ?_) rfl (by kernel_rfl) (by kernel_rfl) (by kernel_rfl) (by kernel_rfl) (fun _ _ _ h => h) (Or.inl ⟨by rfl, ?_⟩) (by assumption) ?_
    rotate_left
    · (intro w0 hSw; (try dsimp only at hSw); go_split_ands; go_simp; with_reducible rfl)
    try simp only [Act.put, List.setIfInBounds_toArray, List.set_cons_zero, List.set_cons_succ]
    refine AnyE.take2 (i := 1) [] (oi := { dst := some 26, op := Go.Op.load 24 (Go.Operand.tmp 25), type := 24, pos := "ref.go:71", after := #[{ on := 0, ground := Go.Ground.data }], guard := none }) (v := ?_) rfl (by kernel_rfl) (by kernel_rfl) (by kernel_rfl) (by kernel_rfl) (fun _ _ _ h => h) (Or.inl ⟨by rfl, ?_⟩) (by assumption) ?_
    rotate_left
    · (intro w0 hSw; (try dsimp only at hSw); go_split_ands; go_simp; with_reducible rfl)
    try simp only [Act.put, List.setIfInBounds_toArray, List.set_cons_zero, List.set_cons_succ]
    refine AnyE.take2 (i := 2) [] (oi := { dst := some 27, op := Go.Op.move (Go.Operand.tmp 1), type := 3, pos := "ref.go:71", after := #[], guard := none }) (v := ?_) rfl (by kernel_rfl) (by kernel_rfl) (by kernel_rfl) (by kernel_rfl) (fun _ _ _ h => h) (Or.inl ⟨by rfl, ?_⟩) (by assumption) ?_
    rotate_left
    · (intro w0 hSw; (try dsimp only at hSw); go_split_ands; go_simp; with_reducible rfl)
    try simp only [Act.put, List.setIfInBounds_toArray, List.set_cons_zero, List.set_cons_succ]
    refine AnyE.take2 (i := 3) [] (oi := { dst := some 28, op := Go.Op.indexAddr 24 (Go.Operand.tmp 26) (Go.Operand.tmp 27), type := 0, pos := "ref.go:71", after := #[{ on := 1, ground := Go.Ground.data }, { on := 2, ground := Go.Ground.data }], guard := none }) (v := ?_) rfl (by kernel_rfl) (by kernel_rfl) (by kernel_rfl) (by kernel_rfl) (fun _ _ _ h => h) (Or.inl ⟨by rfl, ?_⟩) (by assumption) ?_
    rotate_left
    · (intro w0 hSw; (try dsimp only at hSw); go_split_ands; go_simp; with_reducible rfl)
    try simp only [Act.put, List.setIfInBounds_toArray, List.set_cons_zero, List.set_cons_succ]
    refine AnyE.take2 (i := 4) [] (oi := { dst := some 29, op := Go.Op.load 50 (Go.Operand.tmp 28), type := 50, pos := "ref.go:71", after := #[{ on := 3, ground := Go.Ground.data }], guard := none }) (v := ?_) rfl (by kernel_rfl) (by kernel_rfl) (by kernel_rfl) (by kernel_rfl) (fun _ _ _ h => h) (Or.inl ⟨by rfl, ?_⟩) (by assumption) ?_
    rotate_left
    · (intro w0 hSw; (try dsimp only at hSw); go_split_ands; go_simp; with_reducible rfl)
    try simp only [Act.put, List.setIfInBounds_toArray, List.set_cons_zero, List.set_cons_succ]
    refine AnyE.take2 (i := 6) [] (oi := { dst := some 31, op := Go.Op.fieldAddr 141 (Go.Operand.tmp 5) 1, type := 0, pos := "ref.go:71", after := #[{ on := 11, ground := Go.Ground.gcOnly Go.Departure.lateStores }], guard := none }) (v := ?_) rfl (by kernel_rfl) (by kernel_rfl) (by kernel_rfl) (by kernel_rfl) (fun _ _ _ h => h) (Or.inl ⟨by rfl, ?_⟩) (by assumption) ?_
    rotate_left
    · (intro w0 hSw; (try dsimp only at hSw); go_split_ands; go_simp; with_reducible rfl)
    try simp only [Act.put, List.setIfInBounds_toArray, List.set_cons_zero, List.set_cons_succ]
    refine AnyE.take2 (i := 7) [] (oi := { dst := some 32, op := Go.Op.load 3 (Go.Operand.tmp 31), type := 3, pos := "ref.go:71", after := #[{ on := 6, ground := Go.Ground.data }, { on := 11, ground := Go.Ground.gcOnly Go.Departure.lateStores }], guard := none }) (v := ?_) rfl (by kernel_rfl) (by kernel_rfl) (by kernel_rfl) (by kernel_rfl) (fun _ _ _ h => h) (Or.inl ⟨by rfl, ?_⟩) (by assumption) ?_
    rotate_left
    · (intro w0 hSw; (try dsimp only at hSw); go_split_ands; go_simp; with_reducible rfl)
    try simp only [Act.put, List.setIfInBounds_toArray, List.set_cons_zero, List.set_cons_succ]
    refine AnyE.ready (rs := [5]) (by kernel_rfl) (by simp) ?_
    refine AllE.cons (o := { dst := some 30, op := Go.Op.call { callee := Go.Callee.value (Go.Operand.func 113), args := #[Go.Operand.tmp 29], argTypes := #[50] }, type := 48, pos := "ref.go:71", after := #[{ on := 4, ground := Go.Ground.data }], guard := none }) rfl (fun KK hKK => ?_) AllE.nil
    go_simp
    go_at_call 113
    refine (HLo.out _ HBW.out.drew).mono ?_
    rintro e u1 ⟨⟨b', o', c', rfl, y5⟩, hb5⟩
    have hb6 : Below W.heap.size W u1 := (Below.refl _ _).drew.trans hb5
    have HB6 := Lib.hid hb6
    clear hb5 hb6
    refine hKK.out _ _ (HX.out _ HB6.out) (fun hHeld => ?_)
    clear hKK KK
    try simp only [Act.put, List.setIfInBounds_toArray, List.set_cons_zero, List.set_cons_succ]
    refine AnyE.take2 (i := 8) [] (oi := { dst := some 33, op := Go.Op.indexAddr 48 (Go.Operand.tmp 30) (Go.Operand.tmp 32), type := 0, pos := "ref.go:71", after := #[{ on := 5, ground := Go.Ground.data }, { on := 7, ground := Go.Ground.data }, { on := 11, ground := Go.Ground.gcOnly Go.Departure.lateStores }], guard := none }) (v := ?_) rfl (by kernel_rfl) (by kernel_rfl) (by kernel_rfl) (by kernel_rfl) (fun _ _ _ h => h) (Or.inl ⟨by rfl, ?_⟩) (by assumption) ?_
    rotate_left
    · (intro w0 hSw; (try dsimp only at hSw); go_split_ands; go_simp; with_reducible rfl)
    try simp only [Act.put, List.setIfInBounds_toArray, List.set_cons_zero, List.set_cons_succ]
    refine AnyE.take2 (i := 11) [] (oi := { dst := some 6, op := Go.Op.assign (Go.Operand.const (Go.Value.slice none 0 0)), type := 48, pos := "ref.go:71", after := #[{ on := 5, ground := Go.Ground.chain }, { on := 0, ground := Go.Ground.textOnly Go.Departure.lateStores }, { on := 1, ground := Go.Ground.textOnly Go.Departure.lateStores }, { on := 2, ground := Go.Ground.textOnly Go.Departure.lateStores }, { on := 3, ground := Go.Ground.textOnly Go.Departure.lateStores }, { on := 4, ground := Go.Ground.textOnly Go.Departure.lateStores }, { on := 5, ground := Go.Ground.textOnly Go.Departure.lateStoresUnsure }, { on := 6, ground := Go.Ground.textOnly Go.Departure.lateStores }, { on := 7, ground := Go.Ground.textOnly Go.Departure.lateStores }, { on := 8, ground := Go.Ground.textOnly Go.Departure.lateStores }, { on := 9, ground := Go.Ground.textOnly Go.Departure.lateStores }, { on := 10, ground := Go.Ground.textOnly Go.Departure.lateStores }], guard := none }) (v := ?_) rfl (by kernel_rfl) (by kernel_rfl) (by kernel_rfl) (by kernel_rfl) (fun _ _ _ h => h) (Or.inl ⟨by rfl, ?_⟩) (by assumption) ?_
    rotate_left
    · (intro w0 hSw; (try dsimp only at hSw); go_split_ands; go_simp; with_reducible rfl)
    try simp only [Act.put, List.setIfInBounds_toArray, List.set_cons_zero, List.set_cons_succ]
    refine AnyE.ready (rs := [9]) (by kernel_rfl) (by simp) ?_
    refine AllE.cons (o := { dst := some 34, op := Go.Op.load 3 (Go.Operand.tmp 33), type := 3, pos := "ref.go:71", after := #[{ on := 8, ground := Go.Ground.data }, { on := 11, ground := Go.Ground.gcOnly Go.Departure.lateStores }], guard := none }) rfl (fun KK hKK => ?_) AllE.nil
    go_simp
    refine hKK.out _ _ (HX.out _ HB6.out) (fun hHeld => ?_)
    clear hKK KK
    try simp only [Act.put, List.setIfInBounds_toArray, List.set_cons_zero, List.set_cons_succ]
    refine AnyE.ready (rs := [10]) (by kernel_rfl) (by simp) ?_
    refine AllE.cons (o := { dst := some 35, op := Go.Op.buildSlice 48 1 #[(0, Go.Operand.tmp 34)], type := 48, pos := "ref.go:71", after := #[{ on := 9, ground := Go.Ground.data }, { on := 11, ground := Go.Ground.gcOnly Go.Departure.lateStores }], guard := none }) rfl (fun KK hKK => ?_) AllE.nil
    go_simp
    refine hKK.out _ _ (HX.out _ (HB6.out.alloc HB6.out.size _)) (fun hHeld => ?_)
    clear hKK KK
    try simp only [Act.put, List.setIfInBounds_toArray, List.set_cons_zero, List.set_cons_succ]
    refine AnyE.ready (rs := [12]) (by kernel_rfl) (by simp) ?_
    refine AllE.last (o := { dst := some 7, op := Go.Op.assign (Go.Operand.tmp 35), type := 48, pos := "ref.go:71", after := #[{ on := 10, ground := Go.Ground.data }, { on := 11, ground := Go.Ground.chain }, { on := 0, ground := Go.Ground.phase }, { on := 1, ground := Go.Ground.phase }, { on := 2, ground := Go.Ground.phase }, { on := 3, ground := Go.Ground.phase }, { on := 4, ground := Go.Ground.phase }, { on := 5, ground := Go.Ground.phase }, { on := 6, ground := Go.Ground.phase }, { on := 7, ground := Go.Ground.phase }, { on := 8, ground := Go.Ground.phase }, { on := 9, ground := Go.Ground.phase }, { on := 10, ground := Go.Ground.phase }, { on := 11, ground := Go.Ground.phase }], guard := none }) rfl (by kernel_rfl) (fun KK hKK => ?_)
    go_simp
    refine hKK.out _ _ ?_
    clear hKK KK
    try simp only [Act.put, List.setIfInBounds_toArray, List.set_cons_zero, List.set_cons_succ]
    go_wp2
    go_ret2
    exact Give2.rt [x] _ _ rfl (HBW.out.trans (HB6.out.mono HBW.out.size))
  by_cases h5 : c = 5
  · subst h5
    have hi : isIn a (P.pn m + P.ln m) = true := HN.out
    obtain ⟨k, rfl, hk⟩ := isIn_y hi
    clear hi
    show Calls _ _ _ _ (Give2 [loc P m (k : Int).toNat] [] w)
    rw [show ((k : Int).toNat) = k from Int.toNat_natCast k]
    obtain ⟨x0, x1, x2, x3, x4⟩ := HM.out m hm
    have HLo : Hid (∀ V, Below w.heap.size w V → Calls Try.prog 113 #[.agg #[.slice (A.ppa m) (P.pn m) (A.ppc m), .int .i64 (P.rt m), .slice (A.lla m) (P.ln m) (A.llc m), .int .i64 (P.sk m), .slice (A.cda m) (P.cn m) (A.cdc m)]] V fun e w' => (∃ b' o' c', e = .returned (.slice (some ⟨b', o', none⟩) (P.pn m + P.ln m) c') ∧ w'.cell? ⟨b', o' + k, none⟩ = some (.int .i64 (loc P m k))) ∧ Below V.heap.size V w') := Lib.hid fun V hV => locals_k P A m k V ((HP.out.a m hm).kept (Kept.of hV)) ((HP.out.l m hm).kept (Kept.of hV)) hp1 hl1 hk
    generalize loc P m k = x at HLo ⊢
    rw [HMa.out] at HE ⊢
    have hi : (m : Int) < P.nm := by omega
    obtain ⟨W, hW⟩ : ∃ q, q = (w.alloc (.cells #[.slice A.pa P.np A.pc, .slice A.ca P.nc A.cc, .slice (some ⟨bm, om, none⟩) P.nm A.mc] 26)).alloc (.cells #[.int .i64 5, .int .i64 k, .int .i64 b, .int .i64 sz] 141) := ⟨_, rfl⟩
    have HX : Hid (∀ V, Below W.heap.size W V → V.cell? ⟨w.heap.size + 1, 1, none⟩ = some (.int .i64 k) ∧ V.cell? ⟨w.heap.size, 2, none⟩ = some (.slice (some ⟨bm, om, none⟩) P.nm A.mc) ∧ V.cell? ⟨bm, om + m * 5, none⟩ = some (.slice (A.ppa m) (P.pn m) (A.ppc m)) ∧ V.cell? ⟨bm, om + m * 5 + 1, none⟩ = some (.int .i64 (P.rt m)) ∧ V.cell? ⟨bm, om + m * 5 + 2, none⟩ = some (.slice (A.lla m) (P.ln m) (A.llc m)) ∧ V.cell? ⟨bm, om + m * 5 + 3, none⟩ = some (.int .i64 (P.sk m)) ∧ V.cell? ⟨bm, om + m * 5 + 4, none⟩ = some (.slice (A.cda m) (P.cn m) (A.cdc m))) := Lib.hid fun V hV => by
      have h1 : Bx W w.heap.size #[.slice A.pa P.np A.pc, .slice A.ca P.nc A.cc, .slice (some ⟨bm, om, none⟩) P.nm A.mc] 26 := by rw [hW]; exact (Bx.new w _ 26).alloc _
      have h2 : Bx W (w.heap.size + 1) #[.int .i64 5, .int .i64 k, .int .i64 b, .int .i64 sz] 141 := by
        have h9 := Bx.new (w.alloc (.cells #[.slice A.pa P.np A.pc, .slice A.ca P.nc A.cc, .slice (some ⟨bm, om, none⟩) P.nm A.mc] 26)) #[.int .i64 5, .int .i64 k, .int .i64 b, .int .i64 sz] 141
        rw [World.size_alloc] at h9
        rw [hW]; exact h9
      have hb : Below w.heap.size w V := by
        have h3 : Below w.heap.size w W := by rw [hW]; exact HE.out
        exact h3.trans (hV.mono h3.size)
      exact ⟨(h2.below hV).cell 1, (h1.below hV).cell 2, (hb.cell (p := ⟨bm, om + m * 5, none⟩) hbm).trans x0, (hb.cell (p := ⟨bm, om + m * 5 + 1, none⟩) hbm).trans x1, (hb.cell (p := ⟨bm, om + m * 5 + 2, none⟩) hbm).trans x2, (hb.cell (p := ⟨bm, om + m * 5 + 3, none⟩) hbm).trans x3, (hb.cell (p := ⟨bm, om + m * 5 + 4, none⟩) hbm).trans x4⟩
    have HBW : Hid (Below w.heap.size w W) := Lib.hid (by rw [hW]; exact HE.out)
    have o0 : W.cell? ⟨w.heap.size + 1, 0, none⟩ = some (.int .i64 5) := by
      have h9 := Bx.new (w.alloc (.cells #[.slice A.pa P.np A.pc, .slice A.ca P.nc A.cc, .slice (some ⟨bm, om, none⟩) P.nm A.mc] 26)) #[.int .i64 5, .int .i64 k, .int .i64 b, .int .i64 sz] 141
      rw [World.size_alloc] at h9
      rw [hW]; exact h9.cell 0
    have HW := Lib.hid hW
    clear hW x0 x1 x2 x3 x4
    generalize P.pn m + P.ln m = N at hk HLo hpl
    have hki : (k : Int) < N := by omega
    go_enter Try.func125, Try.ntmps125
    go_upto_region 1 with fail
    rw [← HW.out]
    go_wp2_with fail
    refine region_e 12 (fun w' => w'.cell? ⟨w.heap.size + 1, 1, none⟩ = some (.int .i64 k) ∧ w'.cell? ⟨w.heap.size, 2, none⟩ = some (.slice (some ⟨bm, om, none⟩) P.nm A.mc) ∧ w'.cell? ⟨bm, om + m * 5, none⟩ = some (.slice (A.ppa m) (P.pn m) (A.ppc m)) ∧ w'.cell? ⟨bm, om + m * 5 + 1, none⟩ = some (.int .i64 (P.rt m)) ∧ w'.cell? ⟨bm, om + m * 5 + 2, none⟩ = some (.slice (A.lla m) (P.ln m) (A.llc m)) ∧ w'.cell? ⟨bm, om + m * 5 + 3, none⟩ = some (.int .i64 (P.sk m)) ∧ w'.cell? ⟨bm, om + m * 5 + 4, none⟩ = some (.slice (A.cda m) (P.cn m) (A.cdc m))) (by kernel_rfl) (HX.out _ (Below.refl _ _).drew) (fun hHeld => ?_)
    refine AnyE.take2 (i := 0) [] (oi := { dst := some 38, op := Go.Op.fieldAddr 26 (Go.Operand.tmp 3) 2, type := 0, pos := "ref.go:73", after := #[], guard := none }) (v := ?_) rfl (by kernel_rfl) (by kernel_rfl) (by kernel_rfl) (by kernel_rfl) (fun _ _ _ h => h) (Or.inl ⟨by rfl, ?_⟩) (by assumption) ?_
    rotate_left
    · (intro w0 hSw; (try dsimp only at hSw); go_split_ands; go_simp; with_reducible rfl)
    try simp only [Act.put, List.setIfInBounds_toArray, List.set_cons_zero, List.set_cons_succ]
    refine AnyE.take2 (i := 1) [] (oi := { dst := some 39, op := Go.Op.load 24 (Go.Operand.tmp 38), type := 24, pos := "ref.go:73", after := #[{ on := 0, ground := Go.Ground.data }], guard := none }) (v := ?_) rfl (by kernel_rfl) (by kernel_rfl) (by kernel_rfl) (by kernel_rfl) (fun _ _ _ h => h) (Or.inl ⟨by rfl, ?_⟩) (by assumption) ?_
    rotate_left
    · (intro w0 hSw; (try dsimp only at hSw); go_split_ands; go_simp; with_reducible rfl)
    try simp only [Act.put, List.setIfInBounds_toArray, List.set_cons_zero, List.set_cons_succ]
    refine AnyE.take2 (i := 2) [] (oi := { dst := some 40, op := Go.Op.move (Go.Operand.tmp 1), type := 3, pos := "ref.go:73", after := #[], guard := none }) (v := ?_) rfl (by kernel_rfl) (by kernel_rfl) (by kernel_rfl) (by kernel_rfl) (fun _ _ _ h => h) (Or.inl ⟨by rfl, ?_⟩) (by assumption) ?_
    rotate_left
    · (intro w0 hSw; (try dsimp only at hSw); go_split_ands; go_simp; with_reducible rfl)
    try simp only [Act.put, List.setIfInBounds_toArray, List.set_cons_zero, List.set_cons_succ]
    refine AnyE.take2 (i := 3) [] (oi := { dst := some 41, op := Go.Op.indexAddr 24 (Go.Operand.tmp 39) (Go.Operand.tmp 40), type := 0, pos := "ref.go:73", after := #[{ on := 1, ground := Go.Ground.data }, { on := 2, ground := Go.Ground.data }], guard := none }) (v := ?_) rfl (by kernel_rfl) (by kernel_rfl) (by kernel_rfl) (by kernel_rfl) (fun _ _ _ h => h) (Or.inl ⟨by rfl, ?_⟩) (by assumption) ?_
    rotate_left
    · (intro w0 hSw; (try dsimp only at hSw); go_split_ands; go_simp; with_reducible rfl)
    try simp only [Act.put, List.setIfInBounds_toArray, List.set_cons_zero, List.set_cons_succ]
    refine AnyE.take2 (i := 4) [] (oi := { dst := some 42, op := Go.Op.load 50 (Go.Operand.tmp 41), type := 50, pos := "ref.go:73", after := #[{ on := 3, ground := Go.Ground.data }], guard := none }) (v := ?_) rfl (by kernel_rfl) (by kernel_rfl) (by kernel_rfl) (by kernel_rfl) (fun _ _ _ h => h) (Or.inl ⟨by rfl, ?_⟩) (by assumption) ?_
    rotate_left
    · (intro w0 hSw; (try dsimp only at hSw); go_split_ands; go_simp; with_reducible rfl)
    try simp only [Act.put, List.setIfInBounds_toArray, List.set_cons_zero, List.set_cons_succ]
    refine AnyE.take2 (i := 6) [] (oi := { dst := some 44, op := Go.Op.fieldAddr 141 (Go.Operand.tmp 5) 1, type := 0, pos := "ref.go:73", after := #[], guard := none }) (v := ?_) rfl (by kernel_rfl) (by kernel_rfl) (by kernel_rfl) (by kernel_rfl) (fun _ _ _ h => h) (Or.inl ⟨by rfl, ?_⟩) (by assumption) ?_
    rotate_left
    · (intro w0 hSw; (try dsimp only at hSw); go_split_ands; go_simp; with_reducible rfl)
    try simp only [Act.put, List.setIfInBounds_toArray, List.set_cons_zero, List.set_cons_succ]
    refine AnyE.take2 (i := 7) [] (oi := { dst := some 45, op := Go.Op.load 3 (Go.Operand.tmp 44), type := 3, pos := "ref.go:73", after := #[{ on := 6, ground := Go.Ground.data }], guard := none }) (v := ?_) rfl (by kernel_rfl) (by kernel_rfl) (by kernel_rfl) (by kernel_rfl) (fun _ _ _ h => h) (Or.inl ⟨by rfl, ?_⟩) (by assumption) ?_
    rotate_left
    · (intro w0 hSw; (try dsimp only at hSw); go_split_ands; go_simp; with_reducible rfl)
    try simp only [Act.put, List.setIfInBounds_toArray, List.set_cons_zero, List.set_cons_succ]
    refine AnyE.ready (rs := [5]) (by kernel_rfl) (by simp) ?_
    refine AllE.cons (o := { dst := some 43, op := Go.Op.call { callee := Go.Callee.value (Go.Operand.func 113), args := #[Go.Operand.tmp 42], argTypes := #[50] }, type := 48, pos := "ref.go:73", after := #[{ on := 4, ground := Go.Ground.data }], guard := none }) rfl (fun KK hKK => ?_) AllE.nil
    go_simp
    go_at_call 113
    refine (HLo.out _ HBW.out.drew).mono ?_
    rintro e u1 ⟨⟨b', o', c', rfl, y5⟩, hb5⟩
    have hb6 : Below W.heap.size W u1 := (Below.refl _ _).drew.trans hb5
    have HB6 := Lib.hid hb6
    clear hb5 hb6
    refine hKK.out _ _ (HX.out _ HB6.out) (fun hHeld => ?_)
    clear hKK KK
    try simp only [Act.put, List.setIfInBounds_toArray, List.set_cons_zero, List.set_cons_succ]
    refine AnyE.take2 (i := 8) [] (oi := { dst := some 46, op := Go.Op.indexAddr 48 (Go.Operand.tmp 43) (Go.Operand.tmp 45), type := 0, pos := "ref.go:73", after := #[{ on := 5, ground := Go.Ground.data }, { on := 7, ground := Go.Ground.data }], guard := none }) (v := ?_) rfl (by kernel_rfl) (by kernel_rfl) (by kernel_rfl) (by kernel_rfl) (fun _ _ _ h => h) (Or.inl ⟨by rfl, ?_⟩) (by assumption) ?_
    rotate_left
    · (intro w0 hSw; (try dsimp only at hSw); go_split_ands; go_simp; with_reducible rfl)
    try simp only [Act.put, List.setIfInBounds_toArray, List.set_cons_zero, List.set_cons_succ]
    refine AnyE.ready (rs := [9]) (by kernel_rfl) (by simp) ?_
    refine AllE.cons (o := { dst := some 47, op := Go.Op.load 3 (Go.Operand.tmp 46), type := 3, pos := "ref.go:73", after := #[{ on := 8, ground := Go.Ground.data }], guard := none }) rfl (fun KK hKK => ?_) AllE.nil
    go_simp
    refine hKK.out _ _ (HX.out _ HB6.out) (fun hHeld => ?_)
    clear hKK KK
    try simp only [Act.put, List.setIfInBounds_toArray, List.set_cons_zero, List.set_cons_succ]
    refine AnyE.ready (rs := [10]) (by kernel_rfl) (by simp) ?_
    refine AllE.cons (o := { dst := some 48, op := Go.Op.buildSlice 48 1 #[(0, Go.Operand.tmp 47)], type := 48, pos := "ref.go:73", after := #[{ on := 9, ground := Go.Ground.data }], guard := none }) rfl (fun KK hKK => ?_) AllE.nil
    go_simp
    refine hKK.out _ _ (HX.out _ (HB6.out.alloc HB6.out.size _)) (fun hHeld => ?_)
    clear hKK KK
    try simp only [Act.put, List.setIfInBounds_toArray, List.set_cons_zero, List.set_cons_succ]
    refine AnyE.take2 (i := 11) [] (oi := { dst := some 6, op := Go.Op.assign (Go.Operand.tmp 48), type := 48, pos := "ref.go:73", after := #[{ on := 10, ground := Go.Ground.data }, { on := 5, ground := Go.Ground.chain }, { on := 0, ground := Go.Ground.phase }, { on := 1, ground := Go.Ground.phase }, { on := 2, ground := Go.Ground.phase }, { on := 3, ground := Go.Ground.phase }, { on := 4, ground := Go.Ground.phase }, { on := 5, ground := Go.Ground.phase }, { on := 6, ground := Go.Ground.phase }, { on := 7, ground := Go.Ground.phase }, { on := 8, ground := Go.Ground.phase }, { on := 9, ground := Go.Ground.phase }, { on := 10, ground := Go.Ground.phase }], guard := none }) (v := ?_) rfl (by kernel_rfl) (by kernel_rfl) (by kernel_rfl) (by kernel_rfl) (fun _ _ _ h => h) (Or.inl ⟨by rfl, ?_⟩) (by assumption) ?_
    rotate_left
    · (intro w0 hSw; (try dsimp only at hSw); go_split_ands; go_simp; with_reducible rfl)
    try simp only [Act.put, List.setIfInBounds_toArray, List.set_cons_zero, List.set_cons_succ]
    refine AnyE.ready (rs := [12]) (by kernel_rfl) (by simp) ?_
    refine AllE.last (o := { dst := some 7, op := Go.Op.assign (Go.Operand.const (Go.Value.slice none 0 0)), type := 48, pos := "ref.go:73", after := #[{ on := 11, ground := Go.Ground.chain }, { on := 0, ground := Go.Ground.phase }, { on := 1, ground := Go.Ground.phase }, { on := 2, ground := Go.Ground.phase }, { on := 3, ground := Go.Ground.phase }, { on := 4, ground := Go.Ground.phase }, { on := 5, ground := Go.Ground.phase }, { on := 6, ground := Go.Ground.phase }, { on := 7, ground := Go.Ground.phase }, { on := 8, ground := Go.Ground.phase }, { on := 9, ground := Go.Ground.phase }, { on := 10, ground := Go.Ground.phase }, { on := 11, ground := Go.Ground.phase }], guard := none }) rfl (by kernel_rfl) (fun KK hKK => ?_)
    go_simp
    refine hKK.out _ _ ?_
    clear hKK KK
    try simp only [Act.put, List.setIfInBounds_toArray, List.set_cons_zero, List.set_cons_succ]
    go_wp2
    go_ret2
    exact Give2.lf [x] _ _ rfl (HBW.out.trans (HB6.out.mono HBW.out.size))
  by_cases h9 : c = 9
  · subst h9
    show Calls _ _ _ _ (Give2 [1, 1] [1] w)
    go_enter Try.func125, Try.ntmps125
    go_wp2
    go_ret2
    first | exact Give2.lr [1, 1] [1] _ _ (by simp) HE.out | exact Give2.rl [1, 1] [1] _ _ (by simp) HE.out
  by_cases h10 : c = 10
  · subst h10
    show Calls _ _ _ _ (Give2 [1, 1] [1] w)
    go_enter Try.func125, Try.ntmps125
    go_wp2
    go_ret2
    first | exact Give2.lr [1, 1] [1] _ _ (by simp) HE.out | exact Give2.rl [1, 1] [1] _ _ (by simp) HE.out
  by_cases h11 : c = 11
  · subst h11
    show Calls _ _ _ _ (Give2 [1, 1] [1] w)
    go_enter Try.func125, Try.ntmps125
    go_wp2
    go_ret2
    first | exact Give2.lr [1, 1] [1] _ _ (by simp) HE.out | exact Give2.rl [1, 1] [1] _ _ (by simp) HE.out
  by_cases h12 : c = 12
  · subst h12
    show Calls _ _ _ _ (Give2 [1, 1] [1] w)
    go_enter Try.func125, Try.ntmps125
    go_wp2
    go_ret2
    first | exact Give2.lr [1, 1] [1] _ _ (by simp) HE.out | exact Give2.rl [1, 1] [1] _ _ (by simp) HE.out
  by_cases h13 : c = 13
  · subst h13
    show Calls _ _ _ _ (Give2 [1, 1] [1] w)
    go_enter Try.func125, Try.ntmps125
    go_wp2
    go_ret2
    first | exact Give2.lr [1, 1] [1] _ _ (by simp) HE.out | exact Give2.rl [1, 1] [1] _ _ (by simp) HE.out
  by_cases h14 : c = 14
  · subst h14
    show Calls _ _ _ _ (Give2 [1, 1] [1] w)
    go_enter Try.func125, Try.ntmps125
    go_wp2
    go_ret2
    first | exact Give2.lr [1, 1] [1] _ _ (by simp) HE.out | exact Give2.rl [1, 1] [1] _ _ (by simp) HE.out
  by_cases h15 : c = 15
  · subst h15
    show Calls _ _ _ _ (Give2 [1, 1] [1] w)
    go_enter Try.func125, Try.ntmps125
    go_wp2
    go_ret2
    first | exact Give2.lr [1, 1] [1] _ _ (by simp) HE.out | exact Give2.rl [1, 1] [1] _ _ (by simp) HE.out
  by_cases h16 : c = 16
  · subst h16
    show Calls _ _ _ _ (Give2 [1, 1] [1] w)
    go_enter Try.func125, Try.ntmps125
    go_wp2
    go_ret2
    first | exact Give2.lr [1, 1] [1] _ _ (by simp) HE.out | exact Give2.rl [1, 1] [1] _ _ (by simp) HE.out
  by_cases h17 : c = 17
  · subst h17
    show Calls _ _ _ _ (Give2 [1, 1] [1] w)
    go_enter Try.func125, Try.ntmps125
    go_wp2
    go_ret2
    first | exact Give2.lr [1, 1] [1] _ _ (by simp) HE.out | exact Give2.rl [1, 1] [1] _ _ (by simp) HE.out
  by_cases h18 : c = 18
  · subst h18
    show Calls _ _ _ _ (Give2 [1, 1] [1] w)
    go_enter Try.func125, Try.ntmps125
    go_wp2
    go_ret2
    first | exact Give2.lr [1, 1] [1] _ _ (by simp) HE.out | exact Give2.rl [1, 1] [1] _ _ (by simp) HE.out
  by_cases h19 : c = 19
  · subst h19
    show Calls _ _ _ _ (Give2 [1, 1] [1] w)
    go_enter Try.func125, Try.ntmps125
    go_wp2
    go_ret2
    first | exact Give2.lr [1, 1] [1] _ _ (by simp) HE.out | exact Give2.rl [1, 1] [1] _ _ (by simp) HE.out
  by_cases h21 : c = 21
  · subst h21
    show Calls _ _ _ _ (Give2 [1, 1] [1] w)
    go_enter Try.func125, Try.ntmps125
    go_wp2
    go_ret2
    first | exact Give2.lr [1, 1] [1] _ _ (by simp) HE.out | exact Give2.rl [1, 1] [1] _ _ (by simp) HE.out
  by_cases h22 : c = 22
  · subst h22
    show Calls _ _ _ _ (Give2 [1, 1] [1] w)
    go_enter Try.func125, Try.ntmps125
    go_wp2
    go_ret2
    first | exact Give2.lr [1, 1] [1] _ _ (by simp) HE.out | exact Give2.rl [1, 1] [1] _ _ (by simp) HE.out
  by_cases h20 : c = 20
  · subst h20
    show Calls _ _ _ _ (Give2 [1] [1] w)
    go_enter Try.func125, Try.ntmps125
    go_wp2
    go_ret2
    first | exact Give2.lr [1] [1] _ _ (by simp) HE.out | exact Give2.rl [1] [1] _ _ (by simp) HE.out
  by_cases h23 : c = 23
  · subst h23
    show Calls _ _ _ _ (Give2 [2, 2] [1] w)
    go_enter Try.func125, Try.ntmps125
    go_wp2
    go_ret2
    first | exact Give2.lr [2, 2] [1] _ _ (by simp) HE.out | exact Give2.rl [2, 2] [1] _ _ (by simp) HE.out
  by_cases h24 : c = 24
  · subst h24
    show Calls _ _ _ _ (Give2 [2] [1] w)
    go_enter Try.func125, Try.ntmps125
    go_wp2
    go_ret2
    first | exact Give2.lr [2] [1] _ _ (by simp) HE.out | exact Give2.rl [2] [1] _ _ (by simp) HE.out
  by_cases h35 : c = 35
  · subst h35
    show Calls _ _ _ _ (Give2 [2] [1] w)
    go_enter Try.func125, Try.ntmps125
    go_wp2
    go_ret2
    first | exact Give2.lr [2] [1] _ _ (by simp) HE.out | exact Give2.rl [2] [1] _ _ (by simp) HE.out
  by_cases h38 : c = 38
  · subst h38
    show Calls _ _ _ _ (Give2 [2] [1] w)
    go_enter Try.func125, Try.ntmps125
    go_wp2
    go_ret2
    first | exact Give2.lr [2] [1] _ _ (by simp) HE.out | exact Give2.rl [2] [1] _ _ (by simp) HE.out
  by_cases h26 : c = 26
  · subst h26
    show Calls _ _ _ _ (Give2 [1] [] w)
    go_enter Try.func125, Try.ntmps125
    go_wp2
    go_ret2
    exact Give2.lf [1] _ _ (by simp) HE.out
  by_cases h39 : c = 39
  · subst h39
    show Calls _ _ _ _ (Give2 [1] [] w)
    go_enter Try.func125, Try.ntmps125
    go_wp2
    go_ret2
    exact Give2.lf [1] _ _ (by simp) HE.out
  by_cases h40 : c = 40
  · subst h40
    show Calls _ _ _ _ (Give2 [1] [] w)
    go_enter Try.func125, Try.ntmps125
    go_wp2
    go_ret2
    exact Give2.lf [1] _ _ (by simp) HE.out
  by_cases h27 : c = 27
  · subst h27
    have hi : isIn a P.nm = true := HN.out
    obtain ⟨k, rfl, hk⟩ := isIn_y hi
    clear hi
    show Calls _ _ _ _ (Give2 (parL P (k : Int).toNat) (valL (P.rt (k : Int).toNat)) w)
    rw [show ((k : Int).toNat) = k from Int.toNat_natCast k]
    obtain ⟨x0, x1, x2, x3, x4⟩ := HM.out k hk
    replace x1 : w.cell? ⟨bm, om + k * 5 + 1, none⟩ = some (.int .i64 (P.rt k)) := x1
    have hi2 : (k : Int) < P.nm := by omega
    have HI : Hid (∀ V, Below w.heap.size w V → Ints V (A.ppa k) (parL P k)) := Lib.hid fun V hV => (Ints.of_row (HP.out.a k hk)).kept (Kept.of hV)
    have HL : Hid (P.pn k = (parL P k).length) := Lib.hid (by simp [parL])
    have HC := Lib.hid (HCap.out.a k hk)
    rw [HMa.out] at HE ⊢
    have hne : bm ≠ w.heap.size := by omega
    have hne2 : bm ≠ w.heap.size + 1 := by omega
    by_cases hr : P.rt k = 0
    · rw [hr] at x1
      rw [show valL (P.rt k) = [] from if_pos hr]
      go_enter Try.func125, Try.ntmps125
      go_wp2
      go_ret2
      exact ⟨A.ppa k, A.ppc k, none, 0, by rw [← HL.out]; rfl, HI.out _ (HE.out.alloc HE.out.size _), Ints.nil _ _, by rw [← HL.out]; exact HC.out, Nat.le_refl _, HE.out.alloc HE.out.size _⟩
    · have dr : (P.rt k == 0) = false := by simpa using hr
      rw [show valL (P.rt k) = [P.rt k] from if_neg hr]
      generalize P.rt k = r at x1 dr ⊢
      go_enter Try.func125, Try.ntmps125
      go_wp2_with fail
      go_region
      all_goals
        go_wp2
        go_ret2
        exact ⟨A.ppa k, A.ppc k, _, _, by rw [← HL.out]; rfl, HI.out _ (((HE.out.alloc HE.out.size _).drew).alloc (HE.out.alloc HE.out.size _).size _), Ints.ofg [r] _ _ (by simp), by rw [← HL.out]; exact HC.out, Nat.le_refl _, ((HE.out.alloc HE.out.size _).drew).alloc (HE.out.alloc HE.out.size _).size _⟩
  by_cases h28 : c = 28
  · subst h28
    show Calls _ _ _ _ (Give2 (valL (P.rt m)) [] w)
    obtain ⟨x0, x1, x2, x3, x4⟩ := HM.out m hm
    replace x1 : w.cell? ⟨bm, om + m * 5 + 1, none⟩ = some (.int .i64 (P.rt m)) := x1
    have hi2 : (m : Int) < P.nm := by omega
    rw [HMa.out] at HE ⊢
    have hne : bm ≠ w.heap.size := by omega
    have hne2 : bm ≠ w.heap.size + 1 := by omega
    by_cases hr : P.rt m = 0
    · rw [hr] at x1
      rw [show valL (P.rt m) = [] from if_pos hr]
      go_enter Try.func125, Try.ntmps125
      go_wp2
      go_ret2
      exact Give2.nn HE.out
    · have dr : (P.rt m == 0) = false := by simpa using hr
      rw [show valL (P.rt m) = [P.rt m] from if_neg hr]
      generalize P.rt m = r at x1 dr ⊢
      go_enter Try.func125, Try.ntmps125
      go_wp2
      go_ret2
      exact Give2.lf [r] _ _ (by simp) HE.out
  by_cases h30 : c = 30
  · subst h30
    show Calls _ _ _ _ (Give2 [2] [P.ft a.toNat b.toNat] w)
    have hN : (isIn a P.nc && isIn b (P.nf a.toNat)) = true := HN.out
    obtain ⟨ha, hb⟩ := Bool.and_eq_true_iff.1 hN
    obtain ⟨k, rfl, hk⟩ := isIn_y ha
    rw [show ((k : Int).toNat) = k from Int.toNat_natCast k] at hb
    obtain ⟨j, rfl, hj⟩ := isIn_y hb
    rw [show ((k : Int).toNat) = k from Int.toNat_natCast k, show ((j : Int).toNat) = j from Int.toNat_natCast j]
    rcases HP.out.k with h0 | ⟨bk, ok, hka, hbk, hck⟩
    · omega
    have x0 : w.cell? ⟨bk, ok + k, none⟩ = some (.slice (A.fa k) (P.nf k) (A.fc k)) := hck k hk
    have l0 := HF.out.nf k hk
    unfold Big at l0
    rcases HP.out.f k hk with h0 | ⟨bj, oj, hja, hbj, hcj⟩
    · omega
    have x1 : w.cell? ⟨bj, oj + j * 2, none⟩ = some (.int .i64 (P.ft k j)) := (hcj j hj).1
    rw [hka] at HE ⊢
    rw [hja] at x0
    clear hck hcj hN ha hb
    have hi2 : (k : Int) < P.nc := by omega
    have hi3 : (j : Int) < P.nf k := by omega
    have hne : bk ≠ w.heap.size := by omega
    have hne2 : bk ≠ w.heap.size + 1 := by omega
    have hne3 : bj ≠ w.heap.size := by omega
    have hne4 : bj ≠ w.heap.size + 1 := by omega
    have hne5 : bj ≠ w.heap.size + 1 + 1 := by omega
    have hne6 : bk ≠ w.heap.size + 1 + 1 := by omega
    generalize P.ft k j = x at x1 ⊢
    generalize P.nf k = nf at x0 l0 hj hi3 ⊢
    have y0 : (((w.alloc (.cells #[.slice A.pa P.np A.pc, .slice (some ⟨bk, ok, none⟩) P.nc A.cc, .slice A.ma P.nm A.mc] 26)).alloc (.cells #[.int .i64 30, .int .i64 k, .int .i64 j, .int .i64 sz] 141)).alloc (.cells #[.int .i64 2] 3)).cell? ⟨bk, ok + k, none⟩ = some (.slice (some ⟨bj, oj, none⟩) nf (A.fc k)) := ((HE.out.alloc HE.out.size _).cell (p := ⟨bk, ok + k, none⟩) hbk).trans x0
    have y1 : (((w.alloc (.cells #[.slice A.pa P.np A.pc, .slice (some ⟨bk, ok, none⟩) P.nc A.cc, .slice A.ma P.nm A.mc] 26)).alloc (.cells #[.int .i64 30, .int .i64 k, .int .i64 j, .int .i64 sz] 141)).alloc (.cells #[.int .i64 2] 3)).cell? ⟨bj, oj + j * 2, none⟩ = some (.int .i64 x) := ((HE.out.alloc HE.out.size _).cell (p := ⟨bj, oj + j * 2, none⟩) hbj).trans x1
    go_enter Try.func125, Try.ntmps125
    go_wp2_with fail
    go_region
    all_goals
      go_wp2
      go_ret2
      first | exact Give2.lr [2] [x] _ _ (by simp) HE.out.drew | exact Give2.rl [2] [x] _ _ (by simp) HE.out.drew
  by_cases h31 : c = 31
  · subst h31
    show Calls _ _ _ _ (Give2 [2, P.ft a.toNat b.toNat] [] w)
    have hN : (isIn a P.nc && isIn b (P.nf a.toNat)) = true := HN.out
    obtain ⟨ha, hb⟩ := Bool.and_eq_true_iff.1 hN
    obtain ⟨k, rfl, hk⟩ := isIn_y ha
    rw [show ((k : Int).toNat) = k from Int.toNat_natCast k] at hb
    obtain ⟨j, rfl, hj⟩ := isIn_y hb
    rw [show ((k : Int).toNat) = k from Int.toNat_natCast k, show ((j : Int).toNat) = j from Int.toNat_natCast j]
    rcases HP.out.k with h0 | ⟨bk, ok, hka, hbk, hck⟩
    · omega
    have x0 : w.cell? ⟨bk, ok + k, none⟩ = some (.slice (A.fa k) (P.nf k) (A.fc k)) := hck k hk
    have l0 := HF.out.nf k hk
    unfold Big at l0
    rcases HP.out.f k hk with h0 | ⟨bj, oj, hja, hbj, hcj⟩
    · omega
    have x1 : w.cell? ⟨bj, oj + j * 2, none⟩ = some (.int .i64 (P.ft k j)) := (hcj j hj).1
    rw [hka] at HE ⊢
    rw [hja] at x0
    clear hck hcj hN ha hb
    have hi2 : (k : Int) < P.nc := by omega
    have hi3 : (j : Int) < P.nf k := by omega
    have hne : bk ≠ w.heap.size := by omega
    have hne2 : bk ≠ w.heap.size + 1 := by omega
    have hne3 : bj ≠ w.heap.size := by omega
    have hne4 : bj ≠ w.heap.size + 1 := by omega
    have hne5 : bj ≠ w.heap.size + 1 + 1 := by omega
    have hne6 : bk ≠ w.heap.size + 1 + 1 := by omega
    generalize P.ft k j = x at x1 ⊢
    generalize P.nf k = nf at x0 l0 hj hi3 ⊢
    go_enter Try.func125, Try.ntmps125
    go_wp2_with fail
    go_region
    all_goals
      go_wp2
      go_ret2
      exact Give2.lf [2, x] _ _ (by simp) HE.out.drew
  by_cases h32 : c = 32
  · subst h32
    show Calls _ _ _ _ (Give2 [1] [2] w)
    go_enter Try.func125, Try.ntmps125
    go_wp2
    go_ret2
    first | exact Give2.lr [1] [2] _ _ (by simp) HE.out | exact Give2.rl [1] [2] _ _ (by simp) HE.out
  by_cases h33 : c = 33
  · subst h33
    show Calls _ _ _ _ (Give2 [2, 1] [a] w)
    go_enter Try.func125, Try.ntmps125
    go_wp2_with fail
    go_region
    all_goals
      go_wp2
      go_ret2
      first | exact Give2.lr [2, 1] [a] _ _ (by simp) HE.out.drew | exact Give2.rl [2, 1] [a] _ _ (by simp) HE.out.drew
  by_cases h34 : c = 34
  · subst h34
    show Calls _ _ _ _ (Give2 [2, 1, a] [] w)
    go_enter Try.func125, Try.ntmps125
    go_wp2
    go_ret2
    exact Give2.lf [2, 1, a] _ _ (by simp) HE.out
  by_cases h36 : c = 36
  · subst h36
    show Calls _ _ _ _ (Give2 [2] [] w)
    go_enter Try.func125, Try.ntmps125
    go_wp2
    go_ret2
    exact Give2.lf [2] _ _ (by simp) HE.out
  by_cases h37 : c = 37
  · subst h37
    show Calls _ _ _ _ (Give2 [2] [] w)
    go_enter Try.func125, Try.ntmps125
    go_wp2
    go_ret2
    exact Give2.lf [2] _ _ (by simp) HE.out
  by_cases h0 : c = 0
  · subst h0
    show Calls _ _ _ _ (Give2 [] [] w)
    go_enter Try.func125, Try.ntmps125
    go_wp2
    go_ret2
    exact Give2.nn HE.out
  by_cases h25 : c = 25
  · subst h25
    show Calls _ _ _ _ (Give2 [] [] w)
    go_enter Try.func125, Try.ntmps125
    go_wp2
    go_ret2
    exact Give2.nn HE.out
  omega
end Go.Proofs.Ytpiafgmncfibmaa.Vf
