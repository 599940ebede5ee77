import Derived.Test.YtpiafgmncfibmaaCm
import Derived.Test.YtpiafgmncfibmaaAt
import Derived.Test.YtpiafgmncfibmaaRows
import Derived.ArgAppend
import Derived.Lib.SlBytesConst
import Derived.WalkKit
import Derived.ProofKit
import Derived.OpenShut
import Derived.Deep.QuietTactic
import Derived.BigQuiet
import Derived.Outline
import Derived.WalkSmall
import Derived.WalkLawsBesides
import Derived.WalkSpells
import Derived.BigGuardPart
import Derived.RegionTactic
import Derived.Deep.RegionHeld3
import Derived.Lib.Hide
import Derived.Deep.MidRow
import Derived.Below
import Derived.Deep.RegionWith
import Derived.Deep.OwnRows
import Derived.Deep.AppendLies
namespace Go.Proofs.Ytpiafgmncfibmaa
open Go.ChangeShapes Go.WideShapes Go.ChangeAt Go.RowKit
set_option linter.unusedVariables false

def numB (v : Int) (k : Nat) : List Int := (List.range k).map fun i => v / 2 ^ (8 * i) % 256
theorem numB_succ (v : Int) (k : Nat) : numB v (k + 1) = numB v k ++ [v / 2 ^ (8 * k) % 256] := by unfold numB; rw [List.range_succ, List.map_append]; rfl
theorem numB_len (v : Int) (k : Nat) : (numB v k).length = k := by unfold numB; simp
def poolB (F : Nat → Int) (n : Nat) : List Int := (List.range n).flatMap fun i => numB (F i) 8
theorem poolB_succ (F : Nat → Int) (n : Nat) : poolB F (n + 1) = poolB F n ++ numB (F n) 8 := by unfold poolB; rw [List.range_succ, List.flatMap_append]; simp
def fldV (t : Int) (v : Bool) : Int := if v then (t + 16) % 256 else t % 256
def fldsB (F : Nat → Int) (G : Nat → Bool) (n : Nat) : List Int := (List.range n).map fun j => fldV (F j) (G j)
theorem fldsB_succ (F : Nat → Int) (G : Nat → Bool) (n : Nat) : fldsB F G (n + 1) = fldsB F G n ++ [fldV (F n) (G n)] := by unfold fldsB; rw [List.range_succ, List.map_append]; rfl
def clsB (M : Nat → Nat) (F : Nat → Nat → Int) (G : Nat → Nat → Bool) (n : Nat) : List Int := (List.range n).flatMap fun i => [((M i : Nat) : Int)] ++ fldsB (F i) (G i) (M i)
theorem clsB_succ (M : Nat → Nat) (F : Nat → Nat → Int) (G : Nat → Nat → Bool) (n : Nat) : clsB M F G (n + 1) = clsB M F G n ++ ([((M n : Nat) : Int)] ++ fldsB (F n) (G n) (M n)) := by unfold clsB; rw [List.range_succ, List.flatMap_append]; simp
def codeB (C : Nat → Nat) (n : Nat) : List Int := (List.range n).map fun j => ((C j : Nat) : Int)
def Pg.mthB (P : Pg) (i : Nat) : List Int := [((P.pn i : Nat) : Int) % 256] ++ tysB (P.pt i) (P.pn i) ++ [P.rt i % 256] ++ ([((P.ln i : Nat) : Int) % 256] ++ tysB (P.lt i) (P.ln i)) ++ [P.sk i % 256, ((P.cn i : Nat) : Int) % 256, ((P.cn i : Nat) : Int) / 256] ++ codeB (P.cd i) (P.cn i)
def Pg.mthsB (P : Pg) (n : Nat) : List Int := (List.range n).flatMap P.mthB
theorem Pg.mthsB_succ (P : Pg) (n : Nat) : P.mthsB (n + 1) = P.mthsB n ++ P.mthB n := by unfold Pg.mthsB; rw [List.range_succ, List.flatMap_append]; simp
def Pg.bytes (P : Pg) : List Int := [66, 90, 82, 49] ++ [((P.np : Nat) : Int)] ++ poolB P.po P.np ++ [((P.nc : Nat) : Int)] ++ clsB P.nf P.ft P.fv P.nc ++ [((P.nm : Nat) : Int)] ++ P.mthsB P.nm
def BytesR (P : Pg) (w : World) (e : Ending) (w' : World) : Prop :=
  ((P.chk ≠ 0 ∧ e = .returned (.tuple #[.slice none 0 0, .int .i64 P.chk])) ∨ (P.chk = 0 ∧ ∃ g n cap, e = .returned (.tuple #[.slice (some ⟨g, 0, none⟩) n cap, .int .i64 0]) ∧ LB w.heap.size w' g n cap P.bytes)) ∧ Below w.heap.size w w'
theorem const4 (w : World) : ∀ (j : Nat) (u : Int), ([66, 90, 82, 49] : List Int)[j]? = some u → (w.alloc (.cells #[.int .u8 66, .int .u8 90, .int .u8 82, .int .u8 49] 5 (4, 5))).cell? ((⟨w.heap.size, 0, none⟩ : Addr).add j) = some (.int .u8 u) := by
  intro j u hu
  refine World.news_of_block (B := w.heap.size) (heap_alloc_new w _) j _ ?_
  have hj : j < 4 := by
    have := (List.getElem?_eq_some_iff.1 hu).1
    simpa using this
  have : j = 0 ∨ j = 1 ∨ j = 2 ∨ j = 3 := by omega
  rcases this with rfl | rfl | rfl | rfl
  all_goals (simp at hu; subst hu; rfl)
theorem LB.mono {B B' : Nat} {w : World} {g n cap : Nat} {xs : List Int} (h : LB B w g n cap xs) (hb : B' ≤ B) : LB B' w g n cap xs := by
  refine ⟨h.1, h.2.1, ?_⟩
  rcases h.2.2 with h1 | ⟨g', c', cur, hv, hbg, r⟩
  · exact .inl h1
  · exact .inr ⟨g', c', cur, hv, Nat.le_trans hb hbg, r⟩
/-- What a right program's lengths are at most. -/
structure Lens (P : Pg) : Prop where
  np : P.np ≤ 200
  nc : P.nc ≤ 50
  nm : P.nm ≤ 100
  nf : ∀ i, i < P.nc → P.nf i ≤ 50
  m : ∀ i, i < P.nm → P.pn i + P.ln i ≤ 40 ∧ P.cn i ≤ 4096 ∧ 0 < P.cn i
theorem lens_of {P : Pg} (h : P.chk = 0) : Lens P := by
  by_cases q1 : 200 < P.np
  · rw [chk_a P q1] at h; cases h
  by_cases q2 : 50 < P.nc
  · rw [chk_b P q1 q2] at h; cases h
  cases q3 : anyN P.nc (fun i => decide (50 < P.nf i)) with
  | true => rw [chk_c P q1 q2 q3] at h; cases h
  | false =>
  by_cases q4 : 100 < P.nm
  · rw [chk_d P q1 q2 q3 q4] at h; cases h
  by_cases q5 : P.nm = 0
  · rw [chk_e P q1 q2 q3 q4 q5] at h; cases h
  by_cases q6 : firstE P.nm P.err = 0
  · refine ⟨by omega, by omega, by omega, fun i hi => ?_, fun i hi => ?_⟩
    · have := anyN_n q3 i hi
      simp at this
      omega
    · have hz : P.err i = 0 := by
        by_cases hall : ∀ k, k < P.nm → P.err k = 0
        · exact hall i hi
        · exfalso
          have hy : anyN P.nm (fun k => P.err k != 0) = true := by
            cases hx : anyN P.nm (fun k => P.err k != 0) with
            | true => rfl
            | false => exact absurd (fun k hk => by simpa using anyN_n hx k hk) hall
          obtain ⟨k, hk, hlo, hhi⟩ := anyN_y hy
          have := firstE_at k hk (fun i hi => by simpa using hlo i hi) (by simpa using hhi)
          rw [q6] at this
          simp at hhi
          exact hhi this.symm
      unfold Pg.err chkM at hz
      split at hz
      · cases hz
      · split at hz
        · cases hz
        · split at hz
          · cases hz
          · omega
  · rw [chk_f P q1 q2 q3 q4 q5 q6] at h
    exact absurd h q6

/-- The first append, behind a constant. -/
theorem app_f {ops : Array Oper} {rest : List Oper} {o : Oper} {a : Act} {w : World} {Q : Exit → Act → World → Prop} (hgd : o.guard = none) (s x : Operand)
    (ho : o.op = .call { callee := .builtin .append, args := #[s, x], argTypes := #[29, 29] }) (w0 : World) (b n : Nat) (xs : List Int) (y : Int) (hs : a.eval s = .slice (some ⟨b, 0, none⟩) n n)
    (hl : xs.length = n) (hold : ∀ j u, xs[j]? = some u → w.cell? ((⟨b, 0, none⟩ : Addr).add j) = some (.int .u8 u)) (hb : b < w.heap.size) (be : Below w0.heap.size w0 w) (hx : a.eval x = .slice (some ⟨w.heap.size, 0, none⟩) 1 1) (hbig : n + 1 ≤ 140737488355328)
    (h : ∀ g' cap' w', LB w0.heap.size w' g' (n + 1) cap' (xs ++ [y]) → Below w0.heap.size w0 w' → wpList Try.prog ops Q rest (a.put o.dst (.slice (some ⟨g', 0, none⟩) (n + 1) cap')) w') :
    wpList Try.prog ops Q (o :: rest) a (w.alloc (.cells #[.int .u8 y] 5)) := by
  obtain ⟨i0, hi, hz0, hz1, hz2⟩ := info_parts info5
  refine wpList_append_grows _ hgd s x 29 ho 5 i0 (.int .u8 0) 1 1 Try.underlying29 hi hz0 hz1 hz2 rfl (by omega) (some ⟨b, 0, none⟩) n n (xs.map fun x => .int .u8 x) hs (fun h => nomatch h) (by rw [List.length_map, hl, Nat.mul_one])
    (fun b' hb' j u hu => ?_) ⟨w.heap.size, 0, none⟩ 1 1 [.int .u8 y] hx rfl (fun j u hu => ?_) (fun u hu => by simp at hu; subst hu; rfl) (by omega) (by unfold maxLen; omega) (by rw [Nat.mul_one]; exact hbig) ?_
  · obtain rfl := Option.some.inj hb'
    rw [List.getElem?_map] at hu
    cases hj : xs[j]? with
    | none => rw [hj, Option.map_none] at hu; exact absurd hu (by simp)
    | some y =>
      rw [hj, Option.map_some] at hu
      obtain rfl := Option.some.inj hu
      exact Lib.cell?_alloc_marked _ (hold j y hj)
  · have hj : j = 0 := by
      have := (List.getElem?_eq_some_iff.1 hu).1
      simp at this; omega
    subst hj
    simp at hu
    subst hu
    exact cells1 _ _ _
  · intro v' w' hown hgr
    have be' := be.alloc be.size (.cells #[.int .u8 y] 5)
    rcases hown.2 with ⟨_, h0⟩ | ⟨g, cap, cur, hv, hb', r⟩
    · omega
    · subst hv
      refine h g cap w' (LB.mono (B := (w.alloc (.cells #[.int .u8 y] 5)).heap.size) ⟨by rw [List.length_append, hl]; rfl, ?_⟩ be'.size) ⟨hgr.os.trans be'.os, hgr.tape.trans be'.tape, hgr.output.trans be'.output, Nat.le_trans be'.size hgr.size, fun k hk => (hgr.block k (Nat.lt_of_lt_of_le hk be'.size) (by simp)).trans (be'.block k hk)⟩
      rw [List.map_append]
      exact hown

/-- A boxed variable that no append can reach. -/
def Bx (w : World) (M : Nat) (C : Array Value) (g : Nat) : Prop := rowAt w M = some C ∧ M ≠ g ∧ M < w.heap.size
theorem Bx.next {w w' : World} {M g g' : Nat} {C : Array Value} (h : Bx w M C g) (hg : w.grownBy w' (some g)) (hgg : g' = g ∨ w.heap.size ≤ g') : Bx w' M C g' :=
  ⟨rowAt_grown h.1 hg h.2.1, by have := h.2; omega, Nat.lt_of_lt_of_le h.2.2 hg.size⟩
theorem cells3b (w : World) (a b c : Int) : ∀ (j : Nat) (u : Int), ([a, b, c] : List Int)[j]? = some u → (w.alloc (.cells #[.int .u8 a, .int .u8 b, .int .u8 c] 5)).cell? ((⟨w.heap.size, 0, none⟩ : Addr).add j) = some (.int .u8 u) := by
  intro j u hu
  refine World.news_of_block (B := w.heap.size) (heap_alloc_new w _) j _ ?_
  have hj : j < 3 := by
    have := (List.getElem?_eq_some_iff.1 hu).1
    simpa using this
  have : j = 0 ∨ j = 1 ∨ j = 2 := by omega
  rcases this with rfl | rfl | rfl
  all_goals (simp at hu; subst hu; rfl)
theorem codeB_len (C : Nat → Nat) (n : Nat) : (codeB C n).length = n := by unfold codeB; simp
theorem codeB_at {C : Nat → Nat} {n j : Nat} {u : Int} (h : (codeB C n)[j]? = some u) : j < n ∧ u = (C j : Nat) := by
  have hj : j < n := by have := (List.getElem?_eq_some_iff.1 h).1; rwa [codeB_len] at this
  refine ⟨hj, ?_⟩
  unfold codeB at h
  rw [List.getElem?_map, List.getElem?_range hj] at h
  exact (Option.some.inj h).symm

set_option maxRecDepth 100000 in
set_option maxHeartbeats 8000000 in
theorem bytes_c (P : Pg) (A : Ad) (w : World) (h : PgAt w P A) (hf : Fits P A) : Calls Try.prog 14 #[.agg (P.cells A)] w (BytesR P w) := by
  have HP := Lib.hid (h.kept (Kept.of ((Below.refl w.heap.size w).alloc (Nat.le_refl _) (.cells (P.cells A) 26))))
  have HC : Hid (∀ w1, PgAt w1 P A → Calls Try.prog 16 #[.agg (P.cells A)] w1 fun e w' => e = .returned (.int .i64 P.chk) ∧ Below w1.heap.size w1 w') := Lib.hid fun w1 h1 => check_c P A w1 h1 hf
  have HF := Lib.hid hf
  clear h hf
  obtain ⟨E, hE⟩ : ∃ E, P.chk = E := ⟨_, rfl⟩
  by_cases hE0 : E = 0
  case neg =>
    have dE : (E != 0) = true := by simpa using hE0
    have HE := Lib.hid hE
    clear hE
    show Calls Try.prog 14 #[.agg #[.slice A.pa P.np A.pc, .slice A.ca P.nc A.cc, .slice A.ma P.nm A.mc]] w _
    go_enter Try.func14, Try.ntmps14
    go_wp2_with (first | (go_at_call 16; refine (HC.out _ HP.out).mono ?_; rintro e w1 ⟨rfl, hb⟩; rw [HE.out]; have HB := Lib.hid (((Below.refl w.heap.size w).alloc (Nat.le_refl _) (.cells (P.cells A) 26)).trans (hb.mono (by simp))); clear hb))
    go_ret2
    exact ⟨.inl ⟨(by rw [HE.out]; exact hE0), (by rw [HE.out]; first | done | rfl)⟩, HB.out⟩
  case pos =>
  subst hE0
  have HL := Lib.hid (lens_of hE)
  have HE := Lib.hid hE
  clear hE
  obtain ⟨W0, hW0⟩ : ∃ W, W = w.alloc (.cells (P.cells A) 26) := ⟨_, rfl⟩
  have hX : W0.heap.size = w.heap.size + 1 := by rw [hW0]; simp
  have HBx : Hid (Below w.heap.size w W0) := Lib.hid (by rw [hW0]; exact (Below.refl w.heap.size w).alloc (Nat.le_refl _) _)
  have HX : Hid (∀ w', Below W0.heap.size W0 w' → w'.cell? ⟨w.heap.size, 0, none⟩ = some (.slice A.pa P.np A.pc) ∧ w'.cell? ⟨w.heap.size, 1, none⟩ = some (.slice A.ca P.nc A.cc) ∧ w'.cell? ⟨w.heap.size, 2, none⟩ = some (.slice A.ma P.nm A.mc)) := Lib.hid fun w' hb => by
    rw [hb.cell (p := ⟨w.heap.size, 0, none⟩) (by simp [hX]), hb.cell (p := ⟨w.heap.size, 1, none⟩) (by simp [hX]), hb.cell (p := ⟨w.heap.size, 2, none⟩) (by simp [hX]), hW0]
    simp [go_sem, Pg.cells]
  rw [← hW0] at HP
  obtain ⟨pa, pc, ca, cc, ma, mc, fa, fc, ppa, ppc, lla, llc, cda, cdc⟩ := A
  obtain ⟨np, po, nc, nf, ft, fv, nm, pn, pt, rt, ln, lt, sk, cn, cd⟩ := P
  replace hW0 : W0 = w.alloc (.cells #[.slice pa np pc, .slice ca nc cc, .slice ma nm mc] 26) := hW0
  have HW0 := Lib.hid hW0
  have hnp : np ≤ 200 := HL.out.np
  have hnc : nc ≤ 50 := HL.out.nc
  have hnm : nm ≤ 100 := HL.out.nm
  clear hX hW0
  show Calls Try.prog 14 #[.agg #[.slice pa np pc, .slice ca nc cc, .slice ma nm mc]] w _
  have kc := fun (w : World) (C : Array Value) (n c : Nat) => Lib.run_convert_bytes_const (P := Try.prog) w 29 5 C n c Try.underlying29 Try.underlying5
  go_enter Try.func14, Try.ntmps14
  go_wp2_with fail
  rw [← HW0.out]
  refine (HC.out W0 HP.out).mono ?_
  rintro e w1 ⟨rfl, hb⟩
  rw [HE.out]
  have HB := Lib.hid hb
  obtain ⟨e0, e1, e2⟩ := HX.out w1 hb
  clear hb
  obtain ⟨m0, m1, m2⟩ := HX.out (w1.alloc (.cells #[.int .u8 66, .int .u8 90, .int .u8 82, .int .u8 49] 5 (4, 5))) (HB.out.alloc HB.out.size _)
  go_wp2_with (at_builtin; refine app_f rfl _ _ rfl W0 w1.heap.size 4 [66, 90, 82, 49] _ rfl rfl (fun j u hu => const4 _ j u hu) (by simp) (HB.out.alloc HB.out.size _) (by show Value.slice (some ⟨w1.heap.size + 1, 0, none⟩) 1 1 = _; simp) (by omega) ?_; intro g2 cap2 w2 hl2 be2; clear kc e0 e1 e2 m0 m1 m2; obtain ⟨e0, e1, e2⟩ := HX.out w2 be2)
  have HQ2 : Hid (LB W0.heap.size w2 g2 (4 + 1) cap2 ([66, 90, 82, 49] ++ [(np : Int)]) ∧ Below W0.heap.size W0 w2) := Lib.hid ⟨hl2, be2⟩
  clear hl2 be2
  clear e0 e1 e2
  go_loopw [33, 5] (fun ix v wr => ∃ i n g cap : Nat, i ≤ np ∧ ix = .int .i64 i ∧ v = .slice (some ⟨g, 0, none⟩) n cap ∧ n ≤ 5 + 8 * i ∧ Hid (LB W0.heap.size wr g n cap ([66, 90, 82, 49] ++ [(np : Int)] ++ poolB po i) ∧ Below W0.heap.size W0 wr)) (fun ix _ _ => np - (intOf ix).toNat)
  case atStart => exact ⟨0, 5, g2, cap2, by omega, rfl, rfl, by omega, HQ2⟩
  case round =>
    obtain ⟨i, n, g, cap, hi, rfl, rfl, hn, HQ⟩ := hrel
    clear HQ2
    by_cases hin : i < np
    · have gi : (i : Int) < np := by omega
      rcases (show Row1 wr pa np (fun i => .int .i64 (po i)) from Row1.kept HP.out.p (Kept.of HQ.out.2)) with h0 | ⟨b, o, rfl, hb, hc⟩
      · exact absurd h0 (by omega)
      have c0 := hc i hin
      clear hc
      go_wp2
      clear c0
      go_loopw [37, 5] (fun kx v wr => ∃ k n g cap : Nat, k ≤ 8 ∧ kx = .int .i64 k ∧ v = .slice (some ⟨g, 0, none⟩) n cap ∧ n ≤ 5 + 8 * i + k ∧ Hid (LB W0.heap.size wr g n cap ([66, 90, 82, 49] ++ [(np : Int)] ++ poolB po i ++ numB (po i) k) ∧ Below W0.heap.size W0 wr)) (fun kx _ _ => 8 - (intOf kx).toNat)
      case atStart => exact ⟨0, n, g, cap, by omega, rfl, rfl, by omega, Lib.hid (by simpa [numB] using HQ.out)⟩
      case round =>
        obtain ⟨k, n', g', cap', hk, rfl, rfl, hn', HQ'⟩ := hrel
        clear HQ
        by_cases hk8 : k < 8
        · go_wp2_with (at_builtin; refine app_1 rfl _ _ rfl W0 g' n' cap' _ _ rfl HQ'.out.1 HQ'.out.2 _ rfl (by simp) (by omega) ?_; intro g3 cap3 w3 hl3 be3 hg3 hgg3)
          exact ⟨⟨k + 1, n' + 1, g3, cap3, by omega, by go_num, rfl, by omega, Lib.hid ⟨by rw [numB_succ, ← List.append_assoc]; exact hl3, be3⟩⟩, by simp [intOf]; omega⟩
        · obtain rfl : k = 8 := by omega
          go_wp2
          exact ⟨⟨i + 1, n', g', cap', by omega, by go_num, rfl, by omega, Lib.hid ⟨by rw [poolB_succ, ← List.append_assoc]; exact HQ'.out.1, HQ'.out.2⟩⟩, by simp [intOf]; omega⟩
    · have hnpi : np = i := by omega
      subst hnpi
      obtain ⟨e0, e1, e2⟩ := HX.out wr HQ.out.2
      go_wp2_with (at_builtin; refine app_1 rfl _ _ rfl W0 g n cap _ _ rfl HQ.out.1 HQ.out.2 _ rfl (by simp) (by omega) ?_; intro g2 cap2 w2 hl2 be2 hg2 hgg2; clear e0 e1 e2; obtain ⟨e0, e1, e2⟩ := HX.out w2 be2)
      have HQ2 := Lib.hid (And.intro hl2 be2)
      clear hl2 be2 hg2 hgg2 e0 e1 e2
      go_loopw [60, 5] (fun ix v wr => ∃ i n g cap : Nat, i ≤ nc ∧ ix = .int .i64 i ∧ v = .slice (some ⟨g, 0, none⟩) n cap ∧ n ≤ 1606 + 51 * i ∧ Hid (LB W0.heap.size wr g n cap ([66, 90, 82, 49] ++ [(np : Int)] ++ poolB po np ++ [(nc : Int)] ++ clsB nf ft fv i) ∧ Below W0.heap.size W0 wr)) (fun ix _ _ => nc - (intOf ix).toNat)
      case atStart => exact ⟨0, n + 1, g2, cap2, by omega, rfl, rfl, by omega, Lib.hid (by simpa [clsB] using HQ2.out)⟩
      case round =>
        clear HQ HQ2 hn hi hin
        obtain ⟨i, n, g, cap, hi, rfl, rfl, hn, HQ⟩ := hrel
        by_cases hin : i < nc
        · have gi : (i : Int) < nc := by omega
          rcases (show Row1 wr ca nc (fun i => .slice (fa i) (nf i) (fc i)) from Row1.kept HP.out.k (Kept.of HQ.out.2)) with h0 | ⟨b, o, rfl, hb, hc⟩
          · exact absurd h0 (by omega)
          have c0 : wr.cell? ⟨b, o + i, none⟩ = some (.slice (fa i) (nf i) (fc i)) := hc i hin
          have hfi : nf i ≤ 50 := HL.out.nf i hin
          clear hc
          go_wp2_with (at_builtin; refine app_1 rfl _ _ rfl W0 g n cap _ _ rfl HQ.out.1 HQ.out.2 _ rfl (by simp) (by omega) ?_; intro g2 cap2 w2 hl2 be2 hg2 hgg2)
          have HQ2 := Lib.hid (And.intro hl2 be2)
          clear c0 hl2 be2 hg2 hgg2
          go_loopw [72, 5] (fun kx v wr => ∃ j n g cap : Nat, j ≤ nf i ∧ kx = .int .i64 j ∧ v = .slice (some ⟨g, 0, none⟩) n cap ∧ n ≤ 1606 + 51 * i + 1 + j ∧ Hid (LB W0.heap.size wr g n cap ([66, 90, 82, 49] ++ [(np : Int)] ++ poolB po np ++ [(nc : Int)] ++ clsB nf ft fv i ++ [(nf i : Int)] ++ fldsB (ft i) (fv i) j) ∧ Below W0.heap.size W0 wr)) (fun kx _ _ => nf i - (intOf kx).toNat)
          case atStart => exact ⟨0, n + 1, g2, cap2, by omega, rfl, rfl, by omega, Lib.hid (by simpa [fldsB] using HQ2.out)⟩
          case round =>
            clear HQ HQ2
            obtain ⟨j, n', g', cap', hj, rfl, rfl, hn', HQ'⟩ := hrel
            by_cases hjn : j < nf i
            · have gj : (j : Int) < nf i := by omega
              rcases (show Row2 wr (fa i) (nf i) (fun j => .int .i64 (ft i j)) (fun j => .bool (fv i j)) from Row2.kept (HP.out.f i hin) (Kept.of HQ'.out.2)) with h0 | ⟨b', o', hfa, hb', hc⟩
              · exact absurd h0 (by omega)
              obtain ⟨c0, c1⟩ := hc j hjn
              clear hc
              dsimp only at c0 c1

              rw [hfa]
              cases hv : fv i j with
              | true =>
                rw [hv] at c1
                go_wp2_with (at_builtin; refine app_1 rfl _ _ rfl W0 g' n' cap' _ _ rfl (LB.alloc HQ'.out.1 _) (HQ'.out.2.alloc HQ'.out.2.size _) _ rfl (by simp) (by omega) ?_; intro g3 cap3 w3 hl3 be3 hg3 hgg3)
                exact ⟨⟨j + 1, n' + 1, g3, cap3, by omega, by go_num, rfl, by omega, Lib.hid ⟨by rw [fldsB_succ, ← List.append_assoc, hv]; exact hl3, be3⟩⟩, by simp [intOf]; omega⟩
              | false =>
                rw [hv] at c1
                go_wp2_with (at_builtin; refine app_1 rfl _ _ rfl W0 g' n' cap' _ _ rfl (LB.alloc HQ'.out.1 _) (HQ'.out.2.alloc HQ'.out.2.size _) _ rfl (by simp) (by omega) ?_; intro g3 cap3 w3 hl3 be3 hg3 hgg3)
                exact ⟨⟨j + 1, n' + 1, g3, cap3, by omega, by go_num, rfl, by omega, Lib.hid ⟨by rw [fldsB_succ, ← List.append_assoc, hv]; exact hl3, be3⟩⟩, by simp [intOf]; omega⟩
            · obtain rfl : j = nf i := by omega
              go_wp2
              exact ⟨⟨i + 1, n', g', cap', by omega, by go_num, rfl, by omega, Lib.hid ⟨by rw [clsB_succ]; simpa using HQ'.out.1, HQ'.out.2⟩⟩, by simp [intOf]; omega⟩
        · have hnci : nc = i := by omega
          subst hnci
          obtain ⟨e0, e1, e2⟩ := HX.out wr HQ.out.2
          go_wp2_with (at_builtin; refine app_1 rfl _ _ rfl W0 g n cap _ _ rfl HQ.out.1 HQ.out.2 _ rfl (by simp) (by omega) ?_; intro g2 cap2 w2 hl2 be2 hg2 hgg2; clear e0 e1 e2; obtain ⟨e0, e1, e2⟩ := HX.out w2 be2)
          have HQ2 := Lib.hid (And.intro hl2 be2)
          clear hl2 be2 hg2 hgg2 e0 e1 e2
          go_loopw [99, 5] (fun ix v wr => ∃ i n g cap : Nat, i ≤ nm ∧ ix = .int .i64 i ∧ v = .slice (some ⟨g, 0, none⟩) n cap ∧ n ≤ 4157 + 4150 * i ∧ Hid (LB W0.heap.size wr g n cap ([66, 90, 82, 49] ++ [(np : Int)] ++ poolB po np ++ [(nc : Int)] ++ clsB nf ft fv nc ++ [(nm : Int)] ++ Pg.mthsB ⟨np, po, nc, nf, ft, fv, nm, pn, pt, rt, ln, lt, sk, cn, cd⟩ i) ∧ Below W0.heap.size W0 wr)) (fun ix _ _ => nm - (intOf ix).toNat)
          case atStart => exact ⟨0, n + 1, g2, cap2, by omega, rfl, rfl, by omega, Lib.hid (by simpa [Pg.mthsB] using HQ2.out)⟩
          case round =>
            clear HQ HQ2 hn hi hin
            obtain ⟨i, n, g, cap, hi, rfl, rfl, hn, HQ⟩ := hrel
            by_cases hin : i < nm
            · have gi : (i : Int) < nm := by omega
              rcases (show Row5 wr ma nm (fun i => .slice (ppa i) (pn i) (ppc i)) (fun i => .int .i64 (rt i)) (fun i => .slice (lla i) (ln i) (llc i)) (fun i => .int .i64 (sk i)) (fun i => .slice (cda i) (cn i) (cdc i)) from Row5.kept HP.out.m (Kept.of HQ.out.2)) with h0 | ⟨b, o, rfl, hb, hc⟩
              · exact absurd h0 (by omega)
              obtain ⟨c0, c1, c2, c3, c4⟩ := hc i hin
              clear hc
              dsimp only at c0 c1 c2 c3 c4
              have hlm : pn i + ln i ≤ 40 := (HL.out.m i hin).1
              have hcn : cn i ≤ 4096 := (HL.out.m i hin).2.1
              have hcn0 : 0 < cn i := (HL.out.m i hin).2.2
              go_wp2_with fail
              refine (apptypes_c W0 _ g n cap _ (ppa i) (pn i) (ppc i) (pt i) (by omega) (by omega) (HQ.out.1.alloc _) (HQ.out.2.alloc HQ.out.2.size _) (HP.out.a i hin)).mono ?_
              rintro e w3 ⟨g3, cap3, rfl, hl3, be3, hg3, hgg3⟩
              have hgl := HQ.out.1.lt.2
              have HM3 := Lib.hid (Bx.next (g := g) ⟨rowAt_new wr #[.slice (ppa i) (pn i) (ppc i), .int .i64 (rt i), .slice (lla i) (ln i) (llc i), .int .i64 (sk i), .slice (cda i) (cn i) (cdc i)] 50, by omega, by simp⟩ hg3 hgg3)
              have HQ3 := Lib.hid (And.intro hl3 be3)
              clear hl3 be3 hg3 hgg3 c0 c1 c2 c3 c4 hgl
              have k1 : w3.cell? ⟨wr.heap.size, 1, none⟩ = some (.int .i64 (rt i)) := rowAt_cell HM3.out.1 1
              have k2 : w3.cell? ⟨wr.heap.size, 2, none⟩ = some (.slice (lla i) (ln i) (llc i)) := rowAt_cell HM3.out.1 2
              go_wp2_with (at_builtin; refine app_1 rfl _ _ rfl W0 g3 (n + (1 + pn i)) cap3 _ _ rfl HQ3.out.1 HQ3.out.2 _ rfl (by simp) (by omega) ?_; intro g4 cap4 w4 hl4 be4 hg4 hgg4; have HM4 := Lib.hid (HM3.out.next hg4 hgg4); have HQ4 := Lib.hid (And.intro hl4 be4); clear hl4 be4 hg4 hgg4 k1 k2; have k2 : w4.cell? ⟨wr.heap.size, 2, none⟩ = some (.slice (lla i) (ln i) (llc i)) := rowAt_cell HM4.out.1 2)
              refine (apptypes_c W0 _ g4 (n + (1 + pn i) + 1) cap4 _ (lla i) (ln i) (llc i) (lt i) (by omega) (by omega) HQ4.out.1 HQ4.out.2 (HP.out.l i hin)).mono ?_
              rintro e w5 ⟨g5, cap5, rfl, hl5, be5, hg5, hgg5⟩
              have HM5 := Lib.hid (HM4.out.next hg5 hgg5)
              have HQ5 := Lib.hid (And.intro hl5 be5)
              clear hl5 be5 hg5 hgg5 k2
              have k3 : w5.cell? ⟨wr.heap.size, 3, none⟩ = some (.int .i64 (sk i)) := rowAt_cell HM5.out.1 3
              have k4 : w5.cell? ⟨wr.heap.size, 4, none⟩ = some (.slice (cda i) (cn i) (cdc i)) := rowAt_cell HM5.out.1 4
              rcases (show Row1 w5 (cda i) (cn i) (fun j => .int .u8 (cd i j : Nat)) from Row1.kept (HP.out.d i hin) (Kept.of HQ5.out.2)) with h0 | ⟨b', o', hfa, hb', hc⟩
              · exact absurd h0 (by omega)
              have HCD : Hid (∀ w', Below W0.heap.size W0 w' → ∀ (j : Nat) (u : Int), (codeB (cd i) (cn i))[j]? = some u → w'.cell? ((⟨b', o', none⟩ : Addr).add j) = some (.int .u8 u)) := Lib.hid fun w' hb j u hu => by
                obtain ⟨hj, rfl⟩ := codeB_at hu
                rcases (show Row1 w' (cda i) (cn i) (fun j => .int .u8 (cd i j : Nat)) from Row1.kept (HP.out.d i hin) (Kept.of hb)) with h0 | ⟨b2, o2, hfa2, hb2, hc2⟩
                · exact absurd h0 (by omega)
                · rw [hfa] at hfa2
                  injection hfa2 with hfa2
                  injection hfa2 with q1 q2
                  subst q1 q2
                  rw [Addr.add_lit]
                  exact hc2 j hj
              clear hc hb'
              rw [hfa] at k4
              go_wp2_with (first | (at_builtin; refine app_b rfl _ _ rfl W0 g5 (n + (1 + pn i) + 1 + (1 + ln i)) cap5 _ rfl (HQ5.out.1.alloc _) (HQ5.out.2.alloc HQ5.out.2.size _) ⟨w5.heap.size, 0, none⟩ 3 3 _ rfl (by rfl) (cells3b _ _ _ _) (by omega) (by omega) ?_; intro g6 cap6 w6 hl6 be6 hg6 hgg6; have HM6 := Lib.hid ((HM5.out.next (g' := g5) (grown_alloc _ _ _) (.inl rfl)).next hg6 hgg6); have HQ6 := Lib.hid (And.intro hl6 be6); clear hl6 be6 hg6 hgg6 k3 k4; have k4 : w6.cell? ⟨wr.heap.size, 4, none⟩ = some (.slice (some ⟨b', o', none⟩) (cn i) (cdc i)) := by (rw [← hfa]; exact rowAt_cell HM6.out.1 4)) | (at_builtin; refine app_b rfl _ _ rfl W0 g6 (n + (1 + pn i) + 1 + (1 + ln i) + 3) cap6 _ rfl HQ6.out.1 HQ6.out.2 ⟨b', o', none⟩ (cn i) (cdc i) (codeB (cd i) (cn i)) rfl (codeB_len _ _) (HCD.out _ HQ6.out.2) hcn0 (by omega) ?_; intro g7 cap7 w7 hl7 be7 hg7 hgg7))
              exact ⟨⟨i + 1, _, g7, cap7, by omega, by go_num, rfl, by omega, Lib.hid ⟨by rw [Pg.mthsB_succ]; simpa [Pg.mthB] using hl7, be7⟩⟩, by simp [intOf]; omega⟩
            · have hnmi : nm = i := by omega
              subst hnmi
              go_wp2
              go_ret2
              exact ⟨.inr ⟨HE.out, g, n, cap, rfl, LB.mono HQ.out.1 (by have := HBx.out.size; omega)⟩, HBx.out.trans (HQ.out.2.mono HBx.out.size)⟩
end Go.Proofs.Ytpiafgmncfibmaa
