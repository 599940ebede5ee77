import Derived.Test.YtjcbhomfggjmhaaRa
import Derived.Test.YtjcbhomfggjmhaaIb
import Derived.Test.YtjcbhomfggjmhaaMq
namespace Go.Proofs.Ytjcbhomfggjmhaa.Mm
open Go.ChangeShapes Go.WideShapes Go.ChangeAt Go.RowKit Go.Maps
set_option linter.unusedVariables false
def lk (l : List Cl) (c : Int) (a : Nat) : Option Nat := match l.findIdx? (fun x => x.hit c a) with
  | some i => some (l.getD i cz).w
  | none => none
theorem fd_cases (l : List Cl) (c : Int) (a : Nat) : (fd l c a = -1 ∧ lk l c a = none) ∨ ∃ i, i < l.length ∧ fd l c a = i ∧ lk l c a = some (l.getD i cz).w := by
  unfold fd lk
  cases h : l.findIdx? (fun x => x.hit c a) with
  | none => exact .inl ⟨rfl, rfl⟩
  | some i => exact .inr ⟨i, (List.findIdx?_eq_some_iff_getElem.1 h).1, rfl, rfl⟩
/-- Invalidations that wait. -/
structure Iv where
  f : Nat
  b : Int
  l : Nat
def ivL (l : List Iv) : List Value := l.flatMap fun x => [.int .i64 (x.f : Nat), .int .i64 x.b, .int .u64 (x.l : Nat)]
theorem ivL_len (l : List Iv) : (ivL l).length = l.length * 3 := by
  unfold ivL
  induction l with
  | nil => rfl
  | cons x l ih => simp [List.flatMap_cons, ih]; omega
/-! ### The document's side -/
structure Rs where
  n : Nat
  T : Me
  told : List Cl
  cache : List Cl
  ahead : List Cl
  wt : List Iv
def Rs.cel (R : Rs) (k : Nat) : List Value := if k = 0 then clL R.told else if k = 1 then clL R.cache else if k = 2 then clL R.ahead else ivL R.wt
def Rs.len (R : Rs) (k : Nat) : Nat := if k = 0 then R.told.length else if k = 1 then R.cache.length else if k = 2 then R.ahead.length else R.wt.length
def tyR (k : Nat) : TypeId := if k = 3 then 118 else 115
structure Rl where
  t : Nat
  v : Value
  B : Nat → Nat
  C : Nat → Nat
  FT : Nat → Prop
structure RsC (w : World) (lo : Nat → Prop) (p : Nat) (L : Rl) (V : Nat → Value) (R : Rs) : Prop where
  row : w.heap[p]? = some (.cells #[.pointer (some ⟨L.t, 0, none⟩), .int .i64 R.n, V 0, V 1, V 2, V 3] 85 (0, 0))
  mem : MeC 70 72 w L.FT L.t R.T L.v L.B L.C
  rows : ∀ k, k < 4 → w.ownsRow 0 (tyR k) 3 (V k) (R.len k) (R.cel k)
  apart : ∀ i j, i < 4 → j < 4 → i ≠ j → (V i).ownBlock = (V j).ownBlock → (V i).ownBlock = none
  lp : ¬ lo p
  lt : ∀ k, L.FT k → ¬ lo k
  rz : ∀ k, k < 4 → ∀ q, (V k).ownBlock = some q → ¬ lo q
  zl : ∀ k, lo k → k < w.heap.size
  ap : ¬ L.FT p
  av : ∀ k, k < 4 → ∀ q, (V k).ownBlock = some q → ¬ L.FT q
  small : ∀ k, k < 4 → R.len k ≤ 1000000
  n4 : 0 < R.n ∧ R.n ≤ 4
section
variable {w w' : World} {lo : Nat → Prop} {p : Nat} {L : Rl} {V : Nat → Value} {R : Rs}
theorem RsC.pl (h : RsC w lo p L V R) : p < w.heap.size := (Array.getElem?_eq_some_iff.1 h.row).1
theorem RsC.kept (h : RsC w lo p L V R) (hs : w.heap.size ≤ w'.heap.size) (hk : ∀ k, ¬ lo k → k < w.heap.size → w'.heap[k]? = w.heap[k]?) : RsC w' lo p L V R :=
  ⟨(hk p h.lp h.pl).trans h.row, h.mem.kept hs (fun k hf => hk k (h.lt k hf) (h.mem.fl k hf)), fun c hc => own_kept (h.rows c hc) (fun q hq => hk q (h.rz c hc q hq) ((h.rows c hc).lt q hq).2), h.apart, h.lp, h.lt, h.rz, zl_up h.zl hs, h.ap, h.av, h.small, h.n4⟩
theorem RsC.past (h : RsC w lo p L V R) (hb : Below w.heap.size w w') : RsC w' lo p L V R := h.kept hb.size fun k _ hk => hb.block k hk
theorem RsC.kp {F : Nat → Prop} (h : RsC w lo p L V R) (hk : Kp F w w') (hF : ∀ k, F k → lo k) : RsC w' lo p L V R := h.kept hk.size fun k h1 h2 => hk.block k h2 fun hf => h1 (hF k hf)
/-- The side's own blocks. -/
def OwnR (p : Nat) (L : Rl) (V : Nat → Value) (k : Nat) : Prop := k = p ∨ L.FT k ∨ ∃ c, c < 4 ∧ (V c).ownBlock = some k
theorem RsC.own (h : RsC w lo p L V R) {k : Nat} (hk : OwnR p L V k) : ¬ lo k ∧ k < w.heap.size := by
  rcases hk with rfl | hk | ⟨c, hc, hk⟩
  · exact ⟨h.lp, h.pl⟩
  · exact ⟨h.lt k hk, h.mem.fl k hk⟩
  · exact ⟨h.rz c hc k hk, ((h.rows c hc).lt k hk).2⟩
theorem RsC.rez (h : RsC w lo p L V R) {Z : Nat → Prop} (hz : ∀ k, OwnR p L V k → ¬ Z k) (hl : ∀ k, Z k → k < w.heap.size) : RsC w Z p L V R :=
  ⟨h.row, h.mem, h.rows, h.apart, hz _ (.inl rfl), fun k hk => hz k (.inr (.inl hk)), fun c hc q hq => hz q (.inr (.inr ⟨c, hc, hq⟩)), hl, h.ap, h.av, h.small, h.n4⟩
theorem RsC.sv (h : RsC w lo p L V R) {Z : Nat → Prop} (hs : Sv Z w w') (hz : ∀ k, OwnR p L V k → Z k) : RsC w' lo p L V R :=
  (((h.rez (Z := fun k => k < w.heap.size ∧ ¬ OwnR p L V k) (fun k hk h2 => h2.2 hk) (fun k hk => hk.1)).kept hs.size (fun k h1 h2 => hs.block k (hz k (Classical.byContradiction fun hn => h1 ⟨h2, hn⟩)) h2))).rez (fun k hk => (h.own hk).1) (zl_up h.zl hs.size)
theorem RsC.cells (h : RsC w lo p L V R) : w.cell? ⟨p, 0, none⟩ = some (.pointer (some ⟨L.t, 0, none⟩)) ∧ w.cell? ⟨p, 1, none⟩ = some (.int .i64 R.n) ∧ w.cell? ⟨p, 2, none⟩ = some (V 0) ∧ w.cell? ⟨p, 3, none⟩ = some (V 1) ∧ w.cell? ⟨p, 4, none⟩ = some (V 2) ∧ w.cell? ⟨p, 5, none⟩ = some (V 3) := by
  have hr := h.row
  refine ⟨?_, ?_, ?_, ?_, ?_, ?_⟩ <;> (unfold World.cell?; rw [hr]; rfl)
def isR (R : Rs) (c : Int) : Prop := 0 ≤ c ∧ c < R.n
instance (R : Rs) (c : Int) : Decidable (isR R c) := by unfold isR; infer_instance
theorem is_c (h : RsC w lo p L V R) (c : Int) : Calls Try.prog 63 #[.pointer (some ⟨p, 0, none⟩), .int .i64 c] w fun e w' => e = .returned (.bool (decide (isR R c))) ∧ w' = w := by
  obtain ⟨_, c1, _⟩ := h.cells
  clear h
  by_cases g : c < 0
  · have g2 : ¬ (0 ≤ c) := by omega
    have d : decide (isR R c) = false := decide_eq_false (fun h => g2 h.1)
    rw [d]
    clear d
    go_enter Try.func63, Try.ntmps63
    go_wp2
    go_ret
    exact ⟨rfl, rfl⟩
  · by_cases g3 : c < R.n
    · have d : decide (isR R c) = true := decide_eq_true ⟨by omega, g3⟩
      rw [d]
      clear d
      have g2 : 0 ≤ c := by omega
      go_enter Try.func63, Try.ntmps63
      go_wp2
      go_ret
      exact ⟨rfl, rfl⟩
    · have d : decide (isR R c) = false := decide_eq_false (fun h => g3 h.2)
      rw [d]
      clear d
      have g2 : 0 ≤ c := by omega
      go_enter Try.func63, Try.ntmps63
      go_wp2
      go_ret
      exact ⟨rfl, rfl⟩
theorem look_c (w : World) (B : Nat) (v : Value) (l : List Cl) (ho : w.ownsRow B 115 3 v l.length (clL l)) (hb : l.length ≤ 1000000) (c : Int) (a : Nat) :
    Calls Try.prog 67 #[v, .int .i64 c, .int .u64 (a : Nat)] w fun e w' => e = .returned (.tuple #[.int .u32 ((lk l c a).getD 0 : Nat), .bool (lk l c a).isSome]) ∧ w' = w := by
  have HF := Lib.hid (find_c w B v l ho hb c a)
  rcases fd_cases l c a with ⟨e1, e2⟩ | ⟨i, hi, e1, e2⟩
  · rw [e1] at HF
    rw [e2]
    clear ho e1 e2
    go_enter Try.func67, Try.ntmps67
    go_wp2_with (go_at_call 64; refine HF.out.mono ?_; rintro e w1 ⟨rfl, h1⟩; obtain rfl := h1.symm)
    refine bodyPost_ret (v := .tuple #[.int .u32 0, .bool false]) (by simp [results, Try.results67, go_sem]) rfl ⟨rfl, rfl⟩
  · rw [e1] at HF
    rw [e2]
    obtain ⟨pa, cp, hv, hf⟩ := own_form ho
    obtain ⟨g, rfl⟩ : ∃ g, pa = some ⟨g, 0, none⟩ := by
      rcases hf with hf | hf
      · omega
      · exact hf
    rw [hv] at ho HF ⊢
    have e3 := (own_cells ho).1 _ _ (clL_get l i hi).2.2
    have gi : (i : Int) < l.length := by omega
    clear ho e1 e2 hv hf
    generalize (l.getD i cz).w = y at e3 ⊢
    go_enter Try.func67, Try.ntmps67
    go_wp2_with (go_at_call 64; refine HF.out.mono ?_; rintro e w1 ⟨rfl, h1⟩; obtain rfl := h1.symm)
    refine bodyPost_ret (v := .tuple #[.int .u32 (y : Nat), .bool true]) (by simp [results, Try.results67, go_sem]) rfl ⟨rfl, rfl⟩
theorem RsC.row1 (h : RsC w lo p L V R) : w.ownsRow 0 115 3 (V 1) R.cache.length (clL R.cache) := h.rows 1 (by omega)
theorem RsC.row2 (h : RsC w lo p L V R) : w.ownsRow 0 115 3 (V 2) R.ahead.length (clL R.ahead) := h.rows 2 (by omega)
theorem RsC.row0 (h : RsC w lo p L V R) : w.ownsRow 0 115 3 (V 0) R.told.length (clL R.told) := h.rows 0 (by omega)
theorem RsC.row3 (h : RsC w lo p L V R) : w.ownsRow 0 118 3 (V 3) R.wt.length (ivL R.wt) := h.rows 3 (by omega)
theorem rcached_c (h : RsC w lo p L V R) (c : Int) (a : Nat) : Calls Try.prog 43 #[.pointer (some ⟨p, 0, none⟩), .int .i64 c, .int .u64 (a : Nat)] w fun e w' => e = .returned (.tuple #[.int .u32 ((lk R.cache c a).getD 0 : Nat), .bool (lk R.cache c a).isSome]) ∧ w' = w := by
  obtain ⟨_, _, _, c3, _⟩ := h.cells
  have HL := Lib.hid (look_c w 0 (V 1) R.cache h.row1 (h.small 1 (by omega)) c a)
  clear h
  generalize V 1 = v1 at c3 HL
  go_enter Try.func43, Try.ntmps43
  go_wp2_with (go_at_call 67; refine HL.out.mono ?_; rintro e w1 ⟨rfl, h1⟩; obtain rfl := h1.symm)
  refine bodyPost_ret (v := .tuple #[.int .u32 ((lk R.cache c a).getD 0 : Nat), .bool (lk R.cache c a).isSome]) (by simp [results, Try.results43, go_sem]) rfl ⟨rfl, rfl⟩
theorem rheld_c (h : RsC w lo p L V R) (c : Int) (a : Nat) : Calls Try.prog 45 #[.pointer (some ⟨p, 0, none⟩), .int .i64 c, .int .u64 (a : Nat)] w fun e w' => e = .returned (.tuple #[.int .u32 ((lk R.ahead c a).getD 0 : Nat), .bool (lk R.ahead c a).isSome]) ∧ w' = w := by
  obtain ⟨_, _, _, _, c4, _⟩ := h.cells
  have HL := Lib.hid (look_c w 0 (V 2) R.ahead h.row2 (h.small 2 (by omega)) c a)
  clear h
  generalize V 2 = v1 at c4 HL
  go_enter Try.func45, Try.ntmps45
  go_wp2_with (go_at_call 67; refine HL.out.mono ?_; rintro e w1 ⟨rfl, h1⟩; obtain rfl := h1.symm)
  refine bodyPost_ret (v := .tuple #[.int .u32 ((lk R.ahead c a).getD 0 : Nat), .bool (lk R.ahead c a).isSome]) (by simp [results, Try.results45, go_sem]) rfl ⟨rfl, rfl⟩
end
end Go.Proofs.Ytjcbhomfggjmhaa.Mm
namespace Go.Proofs.Ytjcbhomfggjmhaa.Mm
open Go.ChangeShapes Go.WideShapes Go.ChangeAt Go.RowKit Go.Maps
set_option linter.unusedVariables false
def iz : Iv := ⟨0, 0, 0⟩
theorem ivL_app (l m : List Iv) : ivL (l ++ m) = ivL l ++ ivL m := by unfold ivL; rw [List.flatMap_append]
theorem ivL_one (l : List Iv) : ∀ u ∈ ivL l, u.oneCell' = true := by
  intro u hu
  unfold ivL at hu
  rw [List.mem_flatMap] at hu
  obtain ⟨x, _, hx⟩ := hu
  simp only [List.mem_cons, List.not_mem_nil, or_false] at hx
  rcases hx with rfl | rfl | rfl <;> rfl
theorem ivL_drop : ∀ (l : List Iv) (i : Nat), (ivL l).drop (i * 3) = ivL (l.drop i)
  | [], i => by show ([] : List Value).drop _ = ivL (([] : List Iv).drop i); rw [List.drop_nil, List.drop_nil]; rfl
  | x :: l, 0 => rfl
  | x :: l, i + 1 => by
    rw [show (i + 1) * 3 = i * 3 + 3 by omega, List.drop_succ_cons, ← ivL_drop l i]
    rfl
theorem ivL_get (l : List Iv) (j : Nat) (hj : j < l.length) : (ivL l)[j * 3]? = some (.int .i64 ((l.getD j iz).f : Nat)) ∧ (ivL l)[j * 3 + 1]? = some (.int .i64 (l.getD j iz).b) ∧ (ivL l)[j * 3 + 2]? = some (.int .u64 ((l.getD j iz).l : Nat)) := by
  have h1 := ivL_drop l j
  have e : (ivL l).drop (j * 3) = [.int .i64 ((l.getD j iz).f : Nat), .int .i64 (l.getD j iz).b, .int .u64 ((l.getD j iz).l : Nat)] ++ ivL (l.drop (j + 1)) := by
    rw [h1, List.drop_eq_getElem_cons hj]
    have : l.getD j iz = l[j] := by rw [List.getD_eq_getElem?_getD, List.getElem?_eq_getElem hj]; rfl
    rw [this]
    rfl
  refine ⟨?_, ?_, ?_⟩
  · have h2 : ((ivL l).drop (j * 3))[0]? = some (.int .i64 ((l.getD j iz).f : Nat)) := by rw [e]; rfl
    rw [List.getElem?_drop] at h2
    exact h2
  · have h2 : ((ivL l).drop (j * 3))[1]? = some (.int .i64 (l.getD j iz).b) := by rw [e]; rfl
    rw [List.getElem?_drop] at h2
    exact h2
  · have h2 : ((ivL l).drop (j * 3))[2]? = some (.int .u64 ((l.getD j iz).l : Nat)) := by rw [e]; rfl
    rw [List.getElem?_drop] at h2
    exact h2
/-- How many of the first j wait for a core; were asked by one. -/
def wfor (l : List Iv) (c : Int) : Nat → Nat
  | 0 => 0
  | j + 1 => wfor l c j + if ((l.getD j iz).f : Int) = c then 1 else 0
def wby (l : List Iv) (c : Int) : Nat → Nat
  | 0 => 0
  | j + 1 => wby l c j + if (l.getD j iz).b = c then 1 else 0
theorem wfor_le (l : List Iv) (c : Int) : ∀ j, wfor l c j ≤ j
  | 0 => Nat.le_refl _
  | j + 1 => by unfold wfor; have := wfor_le l c j; split <;> omega
theorem wby_le (l : List Iv) (c : Int) : ∀ j, wby l c j ≤ j
  | 0 => Nat.le_refl _
  | j + 1 => by unfold wby; have := wby_le l c j; split <;> omega
section
variable {w w' : World} {lo : Nat → Prop} {p : Nat} {L : Rl} {V : Nat → Value} {R : Rs}
set_option maxRecDepth 100000 in
set_option maxHeartbeats 4000000 in
theorem rwaiting_c (h : RsC w lo p L V R) (c : Int) :
    Calls Try.prog 49 #[.pointer (some ⟨p, 0, none⟩), .int .i64 c] w fun e w' => e = .returned (.int .i64 (wfor R.wt c R.wt.length : Nat)) ∧ w' = w := by
  obtain ⟨_, _, _, _, _, c5⟩ := h.cells
  have ho := h.row3
  have hlen : R.wt.length ≤ 1000000 := h.small 3 (by omega)
  generalize R.wt = l at ho hlen ⊢
  generalize V 3 = v at c5 ho
  obtain ⟨pa, cp, hv, hf⟩ := own_form ho
  rw [hv] at ho c5
  have HO := Lib.hid ho
  clear ho hv h
  go_enter Try.func49, Try.ntmps49
  go_wp2
  go_loopw [5, 6] (fun s5 s6 wr => ∃ j : Nat, j ≤ l.length ∧ s6 = .int .i64 j ∧ s5 = .int .i64 (wfor l c j : Nat) ∧ wr = w) (fun _ s6 _ => l.length + 1 - (intOf s6).toNat)
  case atStart => exact ⟨0, by omega, rfl, rfl, rfl⟩
  case round =>
    obtain ⟨j, hj, rfl, rfl, hwr⟩ := hrel
    obtain rfl := hwr.symm
    by_cases hlj : j < l.length
    · obtain ⟨g, rfl⟩ : ∃ g, pa = some ⟨g, 0, none⟩ := by
        rcases hf with hf | hf
        · omega
        · exact hf
      obtain ⟨i1, i2, i3⟩ := ivL_get l j hlj
      have e0 := (own_cells HO.out).1 _ _ i1
      have e1 := (own_cells HO.out).1 _ _ i2
      have e2 := (own_cells HO.out).1 _ _ i3
      have gj : (j : Int) < l.length := by omega
      have hcl := wfor_le l c j
      have HCS : Hid (wfor l c (j + 1) = wfor l c j + if ((l.getD j iz).f : Int) = c then 1 else 0) := Lib.hid rfl
      generalize l.getD j iz = y at e0 e1 e2 HCS
      generalize wfor l c j = r at hcl HCS ⊢
      clear i1 i2 i3
      by_cases hyc : (y.f : Int) = c
      · have HZ : Hid (wfor l c (j + 1) = r + 1) := Lib.hid (by rw [HCS.out, if_pos hyc])
        have q1 : ((y.f : Int) == c) = true := by simpa using hyc
        have hw : IntKind.i64.wrap ((r : Int) + 1) = (r : Int) + 1 := by rw [IntKind.wrap_i64]; omega
        clear hyc
        go_wp2
        exact ⟨⟨j + 1, by omega, by go_num, by rw [HZ.out]; go_num, trivial⟩, by simp [intOf]; omega⟩
      · have HZ : Hid (wfor l c (j + 1) = r) := Lib.hid (by rw [HCS.out, if_neg hyc]; rfl)
        have q1 : ((y.f : Int) == c) = false := by simpa using hyc
        clear hyc
        go_wp2
        exact ⟨⟨j + 1, by omega, by go_num, by rw [HZ.out], trivial⟩, by simp [intOf]; omega⟩
    · have hjl : j = l.length := by omega
      rw [hjl]
      go_wp2
      go_ret
      exact ⟨rfl, rfl⟩
set_option maxRecDepth 100000 in
set_option maxHeartbeats 4000000 in
theorem rpending_c (h : RsC w lo p L V R) (c : Int) :
    Calls Try.prog 50 #[.pointer (some ⟨p, 0, none⟩), .int .i64 c] w fun e w' => e = .returned (.int .i64 (wby R.wt c R.wt.length : Nat)) ∧ w' = w := by
  obtain ⟨_, _, _, _, _, c5⟩ := h.cells
  have ho := h.row3
  have hlen : R.wt.length ≤ 1000000 := h.small 3 (by omega)
  generalize R.wt = l at ho hlen ⊢
  generalize V 3 = v at c5 ho
  obtain ⟨pa, cp, hv, hf⟩ := own_form ho
  rw [hv] at ho c5
  have HO := Lib.hid ho
  clear ho hv h
  go_enter Try.func50, Try.ntmps50
  go_wp2
  go_loopw [5, 6] (fun s5 s6 wr => ∃ j : Nat, j ≤ l.length ∧ s6 = .int .i64 j ∧ s5 = .int .i64 (wby l c j : Nat) ∧ wr = w) (fun _ s6 _ => l.length + 1 - (intOf s6).toNat)
  case atStart => exact ⟨0, by omega, rfl, rfl, rfl⟩
  case round =>
    obtain ⟨j, hj, rfl, rfl, hwr⟩ := hrel
    obtain rfl := hwr.symm
    by_cases hlj : j < l.length
    · obtain ⟨g, rfl⟩ : ∃ g, pa = some ⟨g, 0, none⟩ := by
        rcases hf with hf | hf
        · omega
        · exact hf
      obtain ⟨i1, i2, i3⟩ := ivL_get l j hlj
      have e0 := (own_cells HO.out).1 _ _ i1
      have e1 := (own_cells HO.out).1 _ _ i2
      have e2 := (own_cells HO.out).1 _ _ i3
      have gj : (j : Int) < l.length := by omega
      have hcl := wby_le l c j
      have HCS : Hid (wby l c (j + 1) = wby l c j + if (l.getD j iz).b = c then 1 else 0) := Lib.hid rfl
      generalize l.getD j iz = y at e0 e1 e2 HCS
      generalize wby l c j = r at hcl HCS ⊢
      clear i1 i2 i3
      by_cases hyc : y.b = c
      · have HZ : Hid (wby l c (j + 1) = r + 1) := Lib.hid (by rw [HCS.out, if_pos hyc])
        have q1 : (y.b == c) = true := by simpa using hyc
        have hw : IntKind.i64.wrap ((r : Int) + 1) = (r : Int) + 1 := by rw [IntKind.wrap_i64]; omega
        clear hyc
        go_wp2
        exact ⟨⟨j + 1, by omega, by go_num, by rw [HZ.out]; go_num, trivial⟩, by simp [intOf]; omega⟩
      · have HZ : Hid (wby l c (j + 1) = r) := Lib.hid (by rw [HCS.out, if_neg hyc]; rfl)
        have q1 : (y.b == c) = false := by simpa using hyc
        clear hyc
        go_wp2
        exact ⟨⟨j + 1, by omega, by go_num, by rw [HZ.out], trivial⟩, by simp [intOf]; omega⟩
    · have hjl : j = l.length := by omega
      rw [hjl]
      go_wp2
      go_ret
      exact ⟨rfl, rfl⟩
end
end Go.Proofs.Ytjcbhomfggjmhaa.Mm
namespace Go.Proofs.Ytjcbhomfggjmhaa.Mm
open Go.ChangeShapes Go.WideShapes Go.ChangeAt Go.RowKit Go.Maps
set_option linter.unusedVariables false
theorem rword_cfg {w : World} {FP : Nat → Prop} {p : Nat} {M : Me} {v : Value} {B C : Nat → Nat} (h : MeC 70 72 w FP p M v B C) (hc : Cfg M) {x : Nat} (hx : x < 18446744073709551616) :
    Calls Try.prog 66 #[.pointer (some ⟨p, 0, none⟩), .int .u64 x] w fun e w' => e = .returned (.tuple #[.int .u32 ((wd M x).1 : Nat), .int .i64 ((wd M x).2 : Nat)]) ∧ Below w.heap.size w w' := by
  unfold wd
  by_cases h1 : 4096 ≤ x ∧ x < 4352 ∧ x % 4 = 0
  · rw [if_pos h1]
    exact rword_y h (hc.hs h1) h1.2.2 hc.2.2.2.1
  · rw [if_neg h1]
    by_cases h4 : x % 4 = 0
    · by_cases h2 : ∃ k o, Hs M x 4 k o
      · obtain ⟨k, o, hs⟩ := h2
        refine rword_x h hs h4 ?_
        by_cases hk : k = 0
        · subst hk
          obtain ⟨_, e1, e2, e3⟩ := hs
          rw [hc.2.1] at e1
          rw [hc.2.2.1] at e2 e3
          omega
        · exact hc.2.2.2.2.2 k (by omega) hs.1
      · exact rword_n h hx fun k o hs => h2 ⟨k, o, hs⟩
    · exact rword_m h hx h4
/-- What the document's side tells of a place. -/
def Rs.at (R : Rs) (x : Nat) : Nat × Nat := if (wd R.T x).2 = 0 then ((lk R.told (-1) x).getD (wd R.T x).1, 0) else (0, 8)
section
variable {w w' : World} {lo : Nat → Prop} {p : Nat} {L : Rl} {V : Nat → Value} {R : Rs}
set_option maxHeartbeats 2000000 in
theorem rtold_c (h : RsC w lo p L V R) (hT : Cfg R.T) {x : Nat} (hx : x < 18446744073709551616) :
    Calls Try.prog 47 #[.pointer (some ⟨p, 0, none⟩), .int .u64 x] w fun e w' => e = .returned (.tuple #[.int .u32 ((R.at x).1 : Nat), .int .i64 ((R.at x).2 : Nat)]) ∧ Below w.heap.size w w' := by
  obtain ⟨c0, _⟩ := h.cells
  have HW := Lib.hid (rword_cfg h.mem hT hx)
  have H := Lib.hid h
  clear h
  by_cases h0 : (wd R.T x).2 = 0
  · rw [h0] at HW
    rcases fd_cases R.told (-1) x with ⟨f1, f2⟩ | ⟨i, hi, f1, f2⟩
    · have HV : Hid (R.at x = ((wd R.T x).1, 0)) := Lib.hid (by unfold Rs.at; rw [if_pos h0, f2]; rfl)
      rw [HV.out]
      have F1 := Lib.hid f1
      clear h0 f1 f2
      go_enter Try.func47, Try.ntmps47
      go_wp2_with (first
        | (go_at_call 66; refine HW.out.mono ?_; rintro e w1 ⟨rfl, hb⟩; have HB := Lib.hid hb; have H1 := Lib.hid (H.out.past hb); obtain ⟨_, _, c2, _⟩ := H1.out.cells; have HFD := Lib.hid (find_c _ _ _ _ H1.out.row0 (H1.out.small 0 (by omega)) (-1) x); rw [F1.out] at HFD; clear hb)
        | (go_at_call 64; refine HFD.out.mono ?_; rintro e w2 ⟨rfl, h1⟩; obtain rfl := h1.symm))
      refine bodyPost_ret (v := .tuple #[.int .u32 ((wd R.T x).1 : Nat), .int .i64 0]) (by simp [results, Try.results47, go_sem]) rfl ⟨rfl, HB.out⟩
    · have HV : Hid (R.at x = ((R.told.getD i cz).w, 0)) := Lib.hid (by unfold Rs.at; rw [if_pos h0, f2]; rfl)
      rw [HV.out]
      obtain ⟨y, hy⟩ : ∃ y, (R.told.getD i cz).w = y := ⟨_, rfl⟩
      rw [hy]
      have HY := Lib.hid hy
      have F1 := Lib.hid f1
      have HI := Lib.hid hi
      have gi : (i : Int) < R.told.length := by omega
      have gj : ¬ (i : Int) < 0 := by omega
      have gk : (0 : Int) ≤ i := by omega
      clear h0 f1 f2 HV hy
      go_enter Try.func47, Try.ntmps47
      go_wp2_with (first
        | (go_at_call 66; refine HW.out.mono ?_; rintro e w1 ⟨rfl, hb⟩; have HB := Lib.hid hb; have H1 := Lib.hid (H.out.past hb); obtain ⟨_, _, c2, _⟩ := H1.out.cells; have HFD := Lib.hid (find_c _ _ _ _ H1.out.row0 (H1.out.small 0 (by omega)) (-1) x); rw [F1.out] at HFD; obtain ⟨pa, cp, hv, hf⟩ := own_form H1.out.row0; obtain ⟨g, rfl⟩ : ∃ g, pa = some ⟨g, 0, none⟩ := (by rcases hf with hf | hf; exact absurd hf (by have := HI.out; omega); exact hf); have HR0 := Lib.hid H1.out.row0; rw [hv] at c2 HFD HR0; have e3 := (own_cells HR0.out).1 _ _ (clL_get _ i HI.out).2.2; rw [HY.out] at e3; clear hb hf hv)
        | (go_at_call 64; refine HFD.out.mono ?_; rintro e w2 ⟨rfl, h1⟩; obtain rfl := h1.symm))
      refine bodyPost_ret (v := .tuple #[.int .u32 (y : Nat), .int .i64 0]) (by simp [results, Try.results47, go_sem]) rfl ⟨rfl, HB.out⟩
  · have h8 : (wd R.T x).2 = 8 := by
      rcases wd_code R.T x with h | h
      · exact absurd h h0
      · exact h
    rw [h8] at HW
    have HV : Hid (R.at x = (0, 8)) := Lib.hid (if_neg h0)
    rw [HV.out]
    clear h0 h8
    go_enter Try.func47, Try.ntmps47
    go_wp2_with (go_at_call 66; refine HW.out.mono ?_; rintro e w1 ⟨rfl, hb⟩; have HB := Lib.hid hb; clear hb)
    refine bodyPost_ret (v := .tuple #[.int .u32 0, .int .i64 8]) (by simp [results, Try.results47, go_sem]) rfl ⟨rfl, HB.out⟩
end
end Go.Proofs.Ytjcbhomfggjmhaa.Mm
