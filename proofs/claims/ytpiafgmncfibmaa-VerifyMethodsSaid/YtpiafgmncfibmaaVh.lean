import Derived.StillTailTactics
import Derived.Laws.BitsLemmas
import Derived.IntWalk
import Derived.Laws.BitsAllLaws
import Derived.Deep.DrawnRows
import Derived.Test.YtpiafgmncfibmaaVg
import Derived.Test.YtpiafgmncfibmaaVu
import Derived.Test.YtpiafgmncfibmaaRows
import Derived.WalkKit
import Derived.ProofKit
import Derived.OpenShut
import Derived.Deep.QuietTactic
import Derived.BigQuiet
import Derived.Outline
import Derived.WalkSmall
import Derived.WalkLawsBesides
import Derived.WalkSpells
import Derived.BigGuardPart
import Derived.RegionTactic
import Derived.Deep.RegionHeld3
import Derived.Lib.Hide
import Derived.Deep.MidRow
import Derived.Below
import Derived.Deep.RegionWith
import Derived.Deep.OwnRows
import Derived.Deep.AppendLies
import Derived.Deep.RegionLaw
import Derived.Deep.CutBlock
import Derived.Deep.DeepCutAuto
namespace Go.Proofs.Ytpiafgmncfibmaa.Vf
open Go.ChangeShapes Go.WideShapes Go.ChangeAt Go.RowKit
set_option linter.unusedVariables false

theorem fit_iff : ∀ (tk ss : List Int), tk.length = ss.length → (fitT tk ss = true ↔ ∀ j, j < tk.length → tk.getD j 0 = -1 ∨ tk.getD j 0 = ss.getD j 0)
  | [], [], _ => by simp [fitT]
  | [], _ :: _, h => by simp at h
  | _ :: _, [], h => by simp at h
  | t :: ts, s :: ss, h => by
    have ih := fit_iff ts ss (by simpa using h)
    simp only [fitT, Bool.and_eq_true, Bool.or_eq_true, beq_iff_eq, ih]
    constructor
    · rintro ⟨h0, h1⟩ j hj
      cases j with
      | zero => simpa using h0
      | succ j => simpa using h1 j (by simpa using hj)
    · intro hh
      exact ⟨by simpa using hh 0 (by simp), fun j hj => by simpa using hh (j + 1) (by simpa using hj)⟩
theorem fit_n {tk ss : List Int} (hl : tk.length = ss.length) {k : Nat} (hk : k < tk.length) (h1 : tk.getD k 0 ≠ -1) (h2 : tk.getD k 0 ≠ ss.getD k 0) : fitT tk ss = false := by
  cases h : fitT tk ss with
  | false => rfl
  | true => rcases (fit_iff tk ss hl).1 h k hk with h | h <;> contradiction
theorem getD_drop (l : List Int) (n i : Nat) : (l.drop n).getD i 0 = l.getD (n + i) 0 := by
  rw [List.getD_eq_getElem?_getD, List.getD_eq_getElem?_getD, List.getElem?_drop]
theorem takes_len {P : Pg} {A : Ad} (hf : Fits P A) (m c : Nat) (a b : Int) (hN : nmB P m c a b = true) : (takes P m c a b).length ≤ 140737488355328 := by
  by_cases h : c = 27
  · subst h
    have hi : isIn a P.nm = true := hN
    obtain ⟨k, rfl, hk⟩ := isIn_y hi
    have := hf.pn k hk
    unfold Big at this
    show (parL P (k : Int).toNat).length ≤ _
    rw [Int.toNat_natCast]
    simpa [parL] using this
  · unfold takes valL
    rw [if_neg h]
    repeat' split
    all_goals simp
theorem Ints.drop {w : World} {a : Option Addr} {l : List Int} {sc lo : Nat} (h : Ints w a l) (hlo : lo ≤ l.length) (hsc : l.length ≤ sc) : Ints w (if sc = lo then a else a.map (·.add (lo * 1))) (l.drop lo) := by
  by_cases h0 : (l.drop lo).length = 0
  · exact .inl h0
  rw [List.length_drop] at h0
  obtain ⟨b, o, rfl, hb, hc⟩ := h.at (by omega)
  rw [if_neg (by omega), Nat.mul_one]
  refine .inr ⟨b, o + lo, by show some (Addr.add _ _) = _; rw [Go.WideShapes.add_plain], hb, fun i hi => ?_⟩
  rw [List.length_drop] at hi
  show w.cell? ⟨b, o + lo + i, none⟩ = some (Value.int .i64 ((l.drop lo).getD i 0))
  rw [getD_drop, Nat.add_assoc]
  exact hc (lo + i) (by omega)
theorem Ints.take {w : World} {a : Option Addr} {l : List Int} {sc n : Nat} (h : Ints w a l) (hn : n ≤ l.length) : Ints w (if sc = 0 then a else a.map (·.add (0 * 1))) (l.take n) := by
  by_cases h0 : (l.take n).length = 0
  · exact .inl h0
  rw [List.length_take] at h0
  obtain ⟨b, o, rfl, hb, hc⟩ := h.at (by omega)
  have e : (if sc = 0 then (some ⟨b, o, none⟩ : Option Addr) else (some ⟨b, o, none⟩ : Option Addr).map (·.add (0 * 1))) = some ⟨b, o, none⟩ := by split <;> rfl
  rw [e]
  refine .inr ⟨b, o, rfl, hb, fun i hi => ?_⟩
  rw [List.length_take] at hi
  rw [hc i (by omega)]
  show some (Value.int .i64 (l.getD i 0)) = some (Value.int .i64 ((l.take n).getD i 0))
  rw [List.getD_eq_getElem?_getD, List.getD_eq_getElem?_getD, List.getElem?_take, if_pos (by omega)]
theorem elem48 : Try.prog.elem 48 = 3 := by kernel_rfl
theorem und48 : Try.prog.underlying 48 = some (.slice (Try.prog.elem 48)) := by rw [elem48]; exact Try.underlying48
theorem slice_from (sa : Option Addr) (n sc lo : Nat) (h : lo ≤ n) (V : World) : (Instr.sliceAt 48 (.slice sa n sc) (some (.int .i64 lo)) none none).run Try.prog V = .ok (.slice (if sc = lo then sa else sa.map (·.add (lo * 1))) (n - lo) (sc - lo)) V := by
  rw [run_sliceAt_slice (h := und48), run_slice_l (ht := und48) (h0 := by omega) (h1 := by omega)]
  obtain ⟨i0, hi, hz0, hz1, hz2⟩ := info_parts info3x
  have he : (sizeOf (Try.prog.elem 48)).run Try.prog V = .ok 1 V := by
    rw [elem48]
    simp [sizeOf, typeInfo, hi, hz1]
  rw [he]
  simp [Result.andThen, sliced]
theorem slice_to (sa : Option Addr) (n sc hi : Nat) (h : hi ≤ sc) (V : World) : (Instr.sliceAt 48 (.slice sa n sc) none (some (.int .i64 hi)) none).run Try.prog V = .ok (.slice (if sc = 0 then sa else sa.map (·.add (0 * 1))) hi sc) V := by
  rw [run_sliceAt_slice (h := und48), run_slice_h (ht := und48) (h0 := by omega) (h2 := by omega)]
  obtain ⟨i0, hi, hz0, hz1, hz2⟩ := info_parts info3x
  have he : (sizeOf (Try.prog.elem 48)).run Try.prog V = .ok 1 V := by
    rw [elem48]
    simp [sizeOf, typeInfo, hi, hz1]
  rw [he]
  simp [Result.andThen, sliced]
theorem puts_len (P : Pg) (m c : Nat) (a b : Int) (t : List Int) : (puts P m c a b t).length ≤ 2 := by
  unfold puts valL
  repeat' split
  all_goals simp
theorem Ints.far {w : World} {a : Option Addr} {l : List Int} {g : Nat} (h : Ints w a l) (hne : ∀ p, a = some p → p.block ≠ g) (k : Nat) (v : Value) : Ints (w.setCell ⟨g, k, none⟩ v) a l := by
  rcases h with h | ⟨b, o, rfl, hb, hc⟩
  · exact .inl h
  · have hbg : b ≠ g := hne _ rfl
    exact .inr ⟨b, o, rfl, by simpa [World.setCell] using hb, fun i hi => (World.cell?_of_block (Below.heap_setCell _ _ _ _ hbg)).trans (hc i hi)⟩
structure EfB (P : Pg) (A : Ad) (c : Nat) (a b sz : Int) (sa : Option Addr) (n sc : Nat) (hh : Int) (w V : World) : Prop where
  p : Bx V w.heap.size #[.slice A.pa P.np A.pc, .slice A.ca P.nc A.cc, .slice A.ma P.nm A.mc] 26
  o : Bx V (w.heap.size + 1) #[.int .i64 c, .int .i64 a, .int .i64 b, .int .i64 sz] 74
  s : Bx V (w.heap.size + 1 + 1) #[.slice sa n sc, .int .i64 hh] 71
  r : Bx V (w.heap.size + 1 + 1 + 1) #[.slice none 0 0, .int .i64 0] 71
  b : Below w.heap.size w V
theorem EfB.below {P : Pg} {A : Ad} {c : Nat} {a b sz : Int} {sa : Option Addr} {n sc : Nat} {hh : Int} {w V V' : World} (h : EfB P A c a b sz sa n sc hh w V) (hb : Below V.heap.size V V') : EfB P A c a b sz sa n sc hh w V' :=
  ⟨h.p.below hb, h.o.below hb, h.s.below hb, h.r.below hb, h.b.trans (hb.mono h.b.size)⟩
theorem EfB.new (P : Pg) (A : Ad) (c : Nat) (a b sz : Int) (sa : Option Addr) (n sc : Nat) (hh : Int) (w : World) : EfB P A c a b sz sa n sc hh w ((((w.alloc (.cells #[.slice A.pa P.np A.pc, .slice A.ca P.nc A.cc, .slice A.ma P.nm A.mc] 26)).alloc (.cells #[.int .i64 c, .int .i64 a, .int .i64 b, .int .i64 sz] 74)).alloc (.cells #[.slice sa n sc, .int .i64 hh] 71)).alloc (.cells #[.slice none 0 0, .int .i64 0] 71)) := by
  refine ⟨(((Bx.new w _ _).alloc _).alloc _).alloc _, ?_, ?_, ?_, ((((Below.refl _ _).alloc (Nat.le_refl _) _).alloc (by simp) _).alloc (by simp; omega) _).alloc (by simp; omega) _⟩
  · have := Bx.new (w.alloc (.cells #[.slice A.pa P.np A.pc, .slice A.ca P.nc A.cc, .slice A.ma P.nm A.mc] 26)) #[.int .i64 c, .int .i64 a, .int .i64 b, .int .i64 sz] 74
    rw [World.size_alloc] at this
    exact (this.alloc _).alloc _
  · have := Bx.new ((w.alloc (.cells #[.slice A.pa P.np A.pc, .slice A.ca P.nc A.cc, .slice A.ma P.nm A.mc] 26)).alloc (.cells #[.int .i64 c, .int .i64 a, .int .i64 b, .int .i64 sz] 74)) #[.slice sa n sc, .int .i64 hh] 71
    rw [World.size_alloc, World.size_alloc] at this
    exact this.alloc _
  · have := Bx.new (((w.alloc (.cells #[.slice A.pa P.np A.pc, .slice A.ca P.nc A.cc, .slice A.ma P.nm A.mc] 26)).alloc (.cells #[.int .i64 c, .int .i64 a, .int .i64 b, .int .i64 sz] 74)).alloc (.cells #[.slice sa n sc, .int .i64 hh] 71)) #[.slice none 0 0, .int .i64 0] 71
    rw [World.size_alloc, World.size_alloc, World.size_alloc] at this
    exact this
def EffR (P : Pg) (m c : Nat) (a b : Int) (s : Sh) (w : World) (e : Ending) (w' : World) : Prop :=
  if effE P m c a b s = 0 then ∃ a' c', e = .returned (.tuple #[.agg #[.slice a' (effS P m c a b s).l.length c', .int .i64 (effS P m c a b s).h], .int .i64 0]) ∧ Ints w' a' (effS P m c a b s).l ∧ (effS P m c a b s).l.length ≤ c' ∧ (∀ p, a' = some p → w.heap.size ≤ p.block) ∧ Below w.heap.size w w'
  else e = .returned (.tuple #[.agg #[.slice none 0 0, .int .i64 0], .int .i64 (effE P m c a b s)]) ∧ Below w.heap.size w w'
theorem EffR.err {P : Pg} {m c : Nat} {a b : Int} {s : Sh} {w w' : World} {x : Int} (he : effE P m c a b s = x) (h0 : x ≠ 0) (hb : Below w.heap.size w w') : EffR P m c a b s w (.returned (.tuple #[.agg #[.slice none 0 0, .int .i64 0], .int .i64 x])) w' := by
  unfold EffR
  rw [he, if_neg h0]
  exact ⟨rfl, hb⟩
theorem EffR.ok {P : Pg} {m c : Nat} {a b : Int} {s : Sh} {w w' : World} {a' : Option Addr} {c' n' : Nat} {h' : Int} (he : effE P m c a b s = 0) (hn : (effS P m c a b s).l.length = n') (hh : (effS P m c a b s).h = h') (hI : Ints w' a' (effS P m c a b s).l) (hc : n' ≤ c') (hf : ∀ p, a' = some p → w.heap.size ≤ p.block) (hb : Below w.heap.size w w') :
    EffR P m c a b s w (.returned (.tuple #[.agg #[.slice a' n' c', .int .i64 h'], .int .i64 0])) w' := by
  unfold EffR
  rw [if_pos he, hn, hh]
  exact ⟨a', c', rfl, hI, hc, hf, hb⟩
set_option maxRecDepth 100000 in
set_option maxHeartbeats 8000000 in
theorem effect_c (P : Pg) (A : Ad) (m c : Nat) (a b sz : Int) (s : Sh) (sa : Option Addr) (sc : Nat) (w : World) (h : PgAt w P A) (hf : Fits P A) (hca : Caps P A) (hm : m < P.nm) (hN : nmB P m c a b = true) (hc41 : c < 41) (hI : Ints w sa s.l) (hsc : s.l.length ≤ sc) (hs2 : s.l.length ≤ 20000) (hh0 : 0 ≤ s.h) (hh1 : s.h ≤ 10) :
    Calls Try.prog 32 #[.agg (P.cells A), .int .i64 m, .agg (ret4 c a b sz), .agg #[.slice sa s.l.length sc, .int .i64 s.h]] w (EffR P m c a b s w) := by
  have HErr : Hid (∀ x w', effE P m c a b s = x → x ≠ 0 → Below w.heap.size w w' → EffR P m c a b s w (.returned (.tuple #[.agg #[.slice none 0 0, .int .i64 0], .int .i64 x])) w') := Lib.hid fun x w' he h0 hb => EffR.err he h0 hb
  have HM1 : Hid (∀ V, Calls Try.prog 68 #[.agg #[.slice A.pa P.np A.pc, .slice A.ca P.nc A.cc, .slice A.ma P.nm A.mc], .int .i64 m] V fun e w' => e = .returned (.bool true) ∧ Below V.heap.size V w') := Lib.hid fun V => (show isIn m P.nm = true from decide_eq_true ⟨by omega, by omega⟩) ▸ isMethod_c P A m V
  have HNm : Hid (∀ V, Below w.heap.size w V → Calls Try.prog 69 #[.agg #[.slice A.pa P.np A.pc, .slice A.ca P.nc A.cc, .slice A.ma P.nm A.mc], .int .i64 m, .agg #[.int .i64 c, .int .i64 a, .int .i64 b, .int .i64 sz]] V fun e w' => e = .returned (.bool true) ∧ Below V.heap.size V w') := Lib.hid fun V hb => hN ▸ names_c P A m c a b sz V (h.kept (Kept.of hb)) hf hm
  have HTk : Hid (∀ V, Below w.heap.size w V → Calls Try.prog 70 #[.agg #[.slice A.pa P.np A.pc, .slice A.ca P.nc A.cc, .slice A.ma P.nm A.mc], .int .i64 m, .agg #[.int .i64 c, .int .i64 a, .int .i64 b, .int .i64 sz]] V (GiveInts (takes P m c a b) V)) := Lib.hid fun V hb => takes_c P A m c a b sz V (h.kept (Kept.of hb)) hf hca hm hN hc41
  have HPt : Hid (∀ V t a3 c3, Below w.heap.size w V → Ints V a3 t → t.length = (takes P m c a b).length → Calls Try.prog 71 #[.agg #[.slice A.pa P.np A.pc, .slice A.ca P.nc A.cc, .slice A.ma P.nm A.mc], .int .i64 m, .agg #[.int .i64 c, .int .i64 a, .int .i64 b, .int .i64 sz], .slice a3 t.length c3] V (GiveInts (puts P m c a b t) V)) := Lib.hid fun V t a3 c3 hb hI ht => puts_c P A m c a b sz t a3 c3 V (h.kept (Kept.of hb)) hf hca hm hN hc41 hI ht
  have HIs : Hid (∀ V, Below w.heap.size w V → Ints V sa s.l) := Lib.hid fun V hb => hI.kept (Kept.of hb)
  have HB0 := Lib.hid (EfB.new P A c a b sz sa s.l.length sc s.h w)
  have HE : Hid (effE P m c a b s = if s.l.length < (takes P m c a b).length then 22 else if fitT (takes P m c a b) (s.l.drop (s.l.length - (takes P m c a b).length)) = false then 21 else if c = 36 ∧ 10 ≤ s.h ∨ c = 37 ∧ s.h = 0 then 25 else 0) := Lib.hid rfl
  have HS : Hid (effS P m c a b s = ⟨s.l.take (s.l.length - (takes P m c a b).length) ++ puts P m c a b (s.l.drop (s.l.length - (takes P m c a b).length)), heldN c s.h⟩) := Lib.hid rfl
  have HOk : Hid (∀ (a' : Option Addr) (c' n' : Nat) (h' : Int) (w' : World), effE P m c a b s = 0 → (effS P m c a b s).l.length = n' → (effS P m c a b s).h = h' → Ints w' a' (effS P m c a b s).l → n' ≤ c' → (∀ p, a' = some p → w.heap.size ≤ p.block) → Below w.heap.size w w' → EffR P m c a b s w (.returned (.tuple #[.agg #[.slice a' n' c', .int .i64 h'], .int .i64 0])) w') := Lib.hid fun a' c' n' h' w' h1 h2 h3 h4 h5 h6 h7 => EffR.ok h1 h2 h3 h4 h5 h6 h7
  generalize EffR P m c a b s w = R at HErr HOk ⊢
  generalize effE P m c a b s = EE at HErr HE HOk
  generalize effS P m c a b s = ES at HS HOk
  obtain ⟨tk, htk⟩ : ∃ tk, takes P m c a b = tk := ⟨_, rfl⟩
  rw [htk] at HTk HE HS HPt
  have htl := takes_len hf m c a b hN
  rw [htk] at htl
  clear htk h hf hca hN hI
  obtain ⟨l, hh⟩ := s
  dsimp only at HE HS HIs HB0 hsc hs2 hh0 hh1 ⊢
  have HL : Hid (∃ n : Nat, l.length = n) := Lib.hid ⟨_, rfl⟩
  obtain ⟨n, hn⟩ := HL.out
  rw [hn] at HE HS hsc hs2 HB0 ⊢
  have HN := Lib.hid hn
  clear hn HL
  show Calls Try.prog 32 #[.agg #[.slice A.pa P.np A.pc, .slice A.ca P.nc A.cc, .slice A.ma P.nm A.mc], .int .i64 m, .agg #[.int .i64 c, .int .i64 a, .int .i64 b, .int .i64 sz], .agg #[.slice sa n sc, .int .i64 hh]] w R
  obtain ⟨W0, hW0⟩ : ∃ W, W = ((((w.alloc (.cells #[.slice A.pa P.np A.pc, .slice A.ca P.nc A.cc, .slice A.ma P.nm A.mc] 26)).alloc (.cells #[.int .i64 c, .int .i64 a, .int .i64 b, .int .i64 sz] 74)).alloc (.cells #[.slice sa n sc, .int .i64 hh] 71)).alloc (.cells #[.slice none 0 0, .int .i64 0] 71)) := ⟨_, rfl⟩
  rw [← hW0] at HB0
  have HW0 := Lib.hid hW0
  clear hW0
  have dc0 : decide ((c : Int) < 0) = false := decide_eq_false (by omega)
  have dc1 : decide ((40 : Int) < (c : Int)) = false := decide_eq_false (by omega)
  go_enter Try.func32, Try.ntmps32
  go_upto_region 1 with fail
  rw [← HW0.out]
  have HB := HB0
  have p0 : W0.cell? ⟨w.heap.size, 0, none⟩ = some (.slice A.pa P.np A.pc) := HB.out.p.cell 0
  have p1 : W0.cell? ⟨w.heap.size, 1, none⟩ = some (.slice A.ca P.nc A.cc) := HB.out.p.cell 1
  have p2 : W0.cell? ⟨w.heap.size, 2, none⟩ = some (.slice A.ma P.nm A.mc) := HB.out.p.cell 2
  have o0 : W0.cell? ⟨w.heap.size + 1, 0, none⟩ = some (.int .i64 c) := HB.out.o.cell 0
  have o1 : W0.cell? ⟨w.heap.size + 1, 1, none⟩ = some (.int .i64 a) := HB.out.o.cell 1
  have o2 : W0.cell? ⟨w.heap.size + 1, 2, none⟩ = some (.int .i64 b) := HB.out.o.cell 2
  have o3 : W0.cell? ⟨w.heap.size + 1, 3, none⟩ = some (.int .i64 sz) := HB.out.o.cell 3
  have s0 : W0.cell? ⟨w.heap.size + 1 + 1, 0, none⟩ = some (.slice sa n sc) := HB.out.s.cell 0
  have s1 : W0.cell? ⟨w.heap.size + 1 + 1, 1, none⟩ = some (.int .i64 hh) := HB.out.s.cell 1
  go_wp2_with fail
  refine (HM1.out _).mono ?_
  rintro e W1 ⟨rfl, hb1⟩
  replace HB : Hid (EfB P A c a b sz sa n sc hh w W1) := Lib.hid (HB.out.below hb1)
  clear p0 p1 p2 o0 o1 o2 o3 s0 s1
  have p0 : W1.cell? ⟨w.heap.size, 0, none⟩ = some (.slice A.pa P.np A.pc) := HB.out.p.cell 0
  have p1 : W1.cell? ⟨w.heap.size, 1, none⟩ = some (.slice A.ca P.nc A.cc) := HB.out.p.cell 1
  have p2 : W1.cell? ⟨w.heap.size, 2, none⟩ = some (.slice A.ma P.nm A.mc) := HB.out.p.cell 2
  have o0 : W1.cell? ⟨w.heap.size + 1, 0, none⟩ = some (.int .i64 c) := HB.out.o.cell 0
  have o1 : W1.cell? ⟨w.heap.size + 1, 1, none⟩ = some (.int .i64 a) := HB.out.o.cell 1
  have o2 : W1.cell? ⟨w.heap.size + 1, 2, none⟩ = some (.int .i64 b) := HB.out.o.cell 2
  have o3 : W1.cell? ⟨w.heap.size + 1, 3, none⟩ = some (.int .i64 sz) := HB.out.o.cell 3
  have s0 : W1.cell? ⟨w.heap.size + 1 + 1, 0, none⟩ = some (.slice sa n sc) := HB.out.s.cell 0
  have s1 : W1.cell? ⟨w.heap.size + 1 + 1, 1, none⟩ = some (.int .i64 hh) := HB.out.s.cell 1
  clear hb1
  go_wp2_with fail
  refine (HNm.out _ HB.out.b).mono ?_
  rintro e W2 ⟨rfl, hb1⟩
  replace HB : Hid (EfB P A c a b sz sa n sc hh w W2) := Lib.hid (HB.out.below hb1)
  clear p0 p1 p2 o0 o1 o2 o3 s0 s1
  have p0 : W2.cell? ⟨w.heap.size, 0, none⟩ = some (.slice A.pa P.np A.pc) := HB.out.p.cell 0
  have p1 : W2.cell? ⟨w.heap.size, 1, none⟩ = some (.slice A.ca P.nc A.cc) := HB.out.p.cell 1
  have p2 : W2.cell? ⟨w.heap.size, 2, none⟩ = some (.slice A.ma P.nm A.mc) := HB.out.p.cell 2
  have o0 : W2.cell? ⟨w.heap.size + 1, 0, none⟩ = some (.int .i64 c) := HB.out.o.cell 0
  have o1 : W2.cell? ⟨w.heap.size + 1, 1, none⟩ = some (.int .i64 a) := HB.out.o.cell 1
  have o2 : W2.cell? ⟨w.heap.size + 1, 2, none⟩ = some (.int .i64 b) := HB.out.o.cell 2
  have o3 : W2.cell? ⟨w.heap.size + 1, 3, none⟩ = some (.int .i64 sz) := HB.out.o.cell 3
  have s0 : W2.cell? ⟨w.heap.size + 1 + 1, 0, none⟩ = some (.slice sa n sc) := HB.out.s.cell 0
  have s1 : W2.cell? ⟨w.heap.size + 1 + 1, 1, none⟩ = some (.int .i64 hh) := HB.out.s.cell 1
  clear hb1
  go_wp2_with fail
  refine (HTk.out _ HB.out.b).mono ?_
  rintro e W3 ⟨ta, tc, rfl, ht, htc, hb1⟩
  replace HB : Hid (EfB P A c a b sz sa n sc hh w W3) := Lib.hid (HB.out.below hb1)
  clear p0 p1 p2 o0 o1 o2 o3 s0 s1
  have p0 : W3.cell? ⟨w.heap.size, 0, none⟩ = some (.slice A.pa P.np A.pc) := HB.out.p.cell 0
  have p1 : W3.cell? ⟨w.heap.size, 1, none⟩ = some (.slice A.ca P.nc A.cc) := HB.out.p.cell 1
  have p2 : W3.cell? ⟨w.heap.size, 2, none⟩ = some (.slice A.ma P.nm A.mc) := HB.out.p.cell 2
  have o0 : W3.cell? ⟨w.heap.size + 1, 0, none⟩ = some (.int .i64 c) := HB.out.o.cell 0
  have o1 : W3.cell? ⟨w.heap.size + 1, 1, none⟩ = some (.int .i64 a) := HB.out.o.cell 1
  have o2 : W3.cell? ⟨w.heap.size + 1, 2, none⟩ = some (.int .i64 b) := HB.out.o.cell 2
  have o3 : W3.cell? ⟨w.heap.size + 1, 3, none⟩ = some (.int .i64 sz) := HB.out.o.cell 3
  have s0 : W3.cell? ⟨w.heap.size + 1 + 1, 0, none⟩ = some (.slice sa n sc) := HB.out.s.cell 0
  have s1 : W3.cell? ⟨w.heap.size + 1 + 1, 1, none⟩ = some (.int .i64 hh) := HB.out.s.cell 1
  clear hb1
  have HT := Lib.hid ht
  obtain ⟨L, hL⟩ : ∃ L, tk.length = L := ⟨_, rfl⟩
  rw [hL] at HE HS HPt htc htl ⊢
  have HLe := Lib.hid hL
  clear hL ht
  by_cases hnL : n < L
  · obtain rfl : EE = 22 := HE.out.trans (if_pos hnL)
    have dl : decide ((n : Int) - (L : Int) < 0) = true := decide_eq_true (by omega)
    have dl2 : decide (n < L) = true := decide_eq_true hnL
    have r0 : W3.cell? ⟨w.heap.size + 1 + 1 + 1, 0, none⟩ = some (.slice none 0 0) := HB.out.r.cell 0
    have q0 : W3.frozen? ⟨w.heap.size + 1 + 1 + 1, 0, none⟩ = false := HB.out.r.frz 0
    have r1 : W3.cell? ⟨w.heap.size + 1 + 1 + 1, 1, none⟩ = some (.int .i64 0) := HB.out.r.cell 1
    have q1 : W3.frozen? ⟨w.heap.size + 1 + 1 + 1, 1, none⟩ = false := HB.out.r.frz 1
    go_wp2_with fail
    clear r0 r1 q0 q1 p0 p1 p2 o0 o1 o2 o3 s0 s1
    have HR : Hid (Bx (W3.setCell ⟨w.heap.size + 1 + 1 + 1, 0, none⟩ (.slice none 0 0)) (w.heap.size + 1 + 1 + 1) #[.slice none 0 0, .int .i64 0] 71 ∧ Below w.heap.size w (W3.setCell ⟨w.heap.size + 1 + 1 + 1, 0, none⟩ (.slice none 0 0))) := Lib.hid ⟨HB.out.r.set 0 _, HB.out.b.setCell (p := ⟨w.heap.size + 1 + 1 + 1, 0, none⟩) (by simp; omega) _⟩
    generalize W3.setCell ⟨w.heap.size + 1 + 1 + 1, 0, none⟩ (.slice none 0 0) = z1 at HR ⊢
    replace HR : Hid (Bx (z1.setCell ⟨w.heap.size + 1 + 1 + 1, 1, none⟩ (.int .i64 0)) (w.heap.size + 1 + 1 + 1) #[.slice none 0 0, .int .i64 0] 71 ∧ Below w.heap.size w (z1.setCell ⟨w.heap.size + 1 + 1 + 1, 1, none⟩ (.int .i64 0))) := Lib.hid ⟨HR.out.1.set 1 _, HR.out.2.setCell (p := ⟨w.heap.size + 1 + 1 + 1, 1, none⟩) (by simp; omega) _⟩
    generalize z1.setCell ⟨w.heap.size + 1 + 1 + 1, 1, none⟩ (.int .i64 0) = z2 at HR ⊢
    have x0 : z2.cell? ⟨w.heap.size + 1 + 1 + 1, 0, none⟩ = some (.slice none 0 0) := HR.out.1.cell 0
    have x1 : z2.cell? ⟨w.heap.size + 1 + 1 + 1, 1, none⟩ = some (.int .i64 0) := HR.out.1.cell 1
    exact bodyPost_ret (v := .tuple #[.agg #[.slice none 0 0, .int .i64 0], .int .i64 22]) (by simp [results, Try.results32, go_sem, x0, x1]) rfl (HErr.out 22 _ rfl (by decide) HR.out.2)

  obtain ⟨left, hleft⟩ : ∃ left, n = left + L := ⟨n - L, by omega⟩
  have hsub : n - L = left := by omega
  rw [hsub] at HE HS
  have HLf := Lib.hid hleft
  have hlr : (n : Int) - (L : Int) = (left : Int) := by omega
  have dl : decide ((left : Int) < 0) = false := decide_eq_false (by omega)
  have hnb : left + L ≤ n := by omega
  clear hleft hsub hnL
  have HTa : Hid (0 < L → ∃ bt ot, ta = some ⟨bt, ot, none⟩ ∧ bt < W3.heap.size ∧ ∀ i, i < L → W3.cell? ⟨bt, ot + i, none⟩ = some (.int .i64 (tk.getD i 0))) := Lib.hid fun h0 => by have := HT.out.at (by rw [HLe.out]; exact h0); rwa [HLe.out] at this
  have HSa : Hid (0 < n → ∃ bs os, sa = some ⟨bs, os, none⟩ ∧ bs < W3.heap.size ∧ ∀ i, i < n → W3.cell? ⟨bs, os + i, none⟩ = some (.int .i64 (l.getD i 0))) := Lib.hid fun h0 => by have := (HIs.out W3 HB.out.b).at (by rw [HN.out]; exact h0); rwa [HN.out] at this
  have HDl : Hid ((l.drop left).length = L) := Lib.hid (by rw [List.length_drop, HN.out]; have := HLf.out; omega)
  have HDg : Hid (∀ i, (l.drop left).getD i 0 = l.getD (left + i) 0) := Lib.hid fun i => getD_drop l left i
  obtain ⟨ld, hld⟩ : ∃ ld, l.drop left = ld := ⟨_, rfl⟩
  rw [hld] at HE HS HDl HDg
  have HLd := Lib.hid hld
  clear hld
  have r0 : W3.cell? ⟨w.heap.size + 1 + 1 + 1, 0, none⟩ = some (.slice none 0 0) := HB.out.r.cell 0
  have q0 : W3.frozen? ⟨w.heap.size + 1 + 1 + 1, 0, none⟩ = false := HB.out.r.frz 0
  have r1 : W3.cell? ⟨w.heap.size + 1 + 1 + 1, 1, none⟩ = some (.int .i64 0) := HB.out.r.cell 1
  have q1 : W3.frozen? ⟨w.heap.size + 1 + 1 + 1, 1, none⟩ = false := HB.out.r.frz 1
  go_wp2_with fail
  clear r0 r1 q0 q1 hlr dl
  clear p0 p1 p2 o0 o1 o2 o3 s0 s1
  go_loopw [12] (fun i wr => ∃ z : Int, -1 ≤ z ∧ z < L ∧ i = .int .i64 z ∧ Hid (Below W3.heap.size W3 wr) ∧ Hid (∀ j : Nat, z < j → j < L → tk.getD j 0 = -1 ∨ tk.getD j 0 = ld.getD j 0)) (fun i _ => (intOf i + 1).toNat)
  case atStart => exact ⟨(L : Int) - 1, by omega, by omega, rfl, Lib.hid (Below.refl _ _), Lib.hid fun j h1 h2 => by omega⟩
  case round =>
    obtain ⟨z, hz0, hz1, rfl, HW, HF⟩ := hrel
    have HB : Hid (EfB P A c a b sz sa n sc hh w wr) := Lib.hid (HB.out.below HW.out)
    by_cases hz : 0 ≤ z
    · obtain ⟨k, rfl⟩ : ∃ k : Nat, z = k := ⟨z.toNat, by omega⟩
      have hkL : k < L := by omega
      obtain ⟨bt, ot, rfl, hbt, hct⟩ := HTa.out (by omega)
      obtain ⟨bs, os, rfl, hbs, hcs⟩ := HSa.out (by omega)
      have t0 : wr.cell? ⟨bt, ot + k, none⟩ = some (.int .i64 (tk.getD k 0)) := (HW.out.cell (p := ⟨bt, ot + k, none⟩) hbt).trans (hct k hkL)
      have t1 : wr.cell? ⟨bs, os + (left + k), none⟩ = some (.int .i64 (ld.getD k 0)) := (HW.out.cell (p := ⟨bs, os + (left + k), none⟩) hbs).trans (by rw [HDg.out]; exact hcs _ (by omega))
      clear hct hcs
      have w1 : IntKind.i64.wrap ((left : Int) + (k : Int)) = (left : Int) + k := by rw [IntKind.wrap_i64]; omega
      have w2 : (0 : Int) ≤ (left : Int) + k := by omega
      have w3 : ((left : Int) + (k : Int)).toNat = left + k := by omega
      have w4 : (left : Int) + k < n := by omega
      have w5 : (k : Int) < L := by omega
      have p0 : wr.cell? ⟨w.heap.size, 0, none⟩ = some (.slice A.pa P.np A.pc) := HB.out.p.cell 0
      have p1 : wr.cell? ⟨w.heap.size, 1, none⟩ = some (.slice A.ca P.nc A.cc) := HB.out.p.cell 1
      have p2 : wr.cell? ⟨w.heap.size, 2, none⟩ = some (.slice A.ma P.nm A.mc) := HB.out.p.cell 2
      have o0 : wr.cell? ⟨w.heap.size + 1, 0, none⟩ = some (.int .i64 c) := HB.out.o.cell 0
      have o1 : wr.cell? ⟨w.heap.size + 1, 1, none⟩ = some (.int .i64 a) := HB.out.o.cell 1
      have o2 : wr.cell? ⟨w.heap.size + 1, 2, none⟩ = some (.int .i64 b) := HB.out.o.cell 2
      have o3 : wr.cell? ⟨w.heap.size + 1, 3, none⟩ = some (.int .i64 sz) := HB.out.o.cell 3
      have s0 : wr.cell? ⟨w.heap.size + 1 + 1, 0, none⟩ = some (.slice (some ⟨bs, os, none⟩) n sc) := HB.out.s.cell 0
      have s1 : wr.cell? ⟨w.heap.size + 1 + 1, 1, none⟩ = some (.int .i64 hh) := HB.out.s.cell 1
      obtain ⟨x, hx⟩ : ∃ x, tk.getD k 0 = x := ⟨_, rfl⟩
      obtain ⟨y, hy⟩ : ∃ y, ld.getD k 0 = y := ⟨_, rfl⟩
      rw [hx] at t0
      rw [hy] at t1
      have HX := Lib.hid hx
      have HY := Lib.hid hy
      clear hx hy
      by_cases hx1 : x = -1
      · have d1 : (x != -1) = false := by simpa using hx1
        have HX1 := Lib.hid hx1
        clear hx1
        go_wp2_with fail
        go_quiet (fail)
        go_wp2
        exact ⟨⟨(k : Int) - 1, by omega, by omega, rfl, Lib.hid (below_drewN HW.out _), Lib.hid fun j h1 h2 => by
          by_cases hjk : j = k
          · subst hjk
            exact .inl (HX.out.trans HX1.out)
          · exact HF.out j (by omega) h2⟩, by simp [intOf]⟩
      · have d1 : (x != -1) = true := by simpa using hx1
        by_cases hxy : x = y
        · have d2 : (x != y) = false := by simpa using hxy
          have HX1 := Lib.hid hxy
          clear hx1 hxy
          go_wp2_with fail
          go_quiet (fail)
          go_wp2
          exact ⟨⟨(k : Int) - 1, by omega, by omega, rfl, Lib.hid (below_drewN HW.out _), Lib.hid fun j h1 h2 => by
            by_cases hjk : j = k
            · subst hjk
              exact .inr (HX.out.trans (HX1.out.trans HY.out.symm))
            · exact HF.out j (by omega) h2⟩, by simp [intOf]⟩
        · have d2 : (x != y) = true := by simpa using hxy
          have hfit : fitT tk ld = false := fit_n (HLe.out.trans HDl.out.symm) (k := k) (by rw [HLe.out]; exact hkL) (by rw [HX.out]; exact hx1) (by rw [HX.out, HY.out]; exact hxy)
          obtain rfl : EE = 21 := HE.out.trans ((if_neg (by omega)).trans (if_pos hfit))
          clear hfit hx1 hxy
          go_wp2_with fail
          go_quiet (fail)
          obtain ⟨V, hV⟩ : ∃ V, V = wr.drewN nq := ⟨_, rfl⟩
          have HB : Hid (EfB P A c a b sz (some ⟨bs, os, none⟩) n sc hh w V) := Lib.hid (HB.out.below (hV ▸ below_drewN (Below.refl _ _) _))
          rw [← hV]
          clear hV
          have r0 : V.cell? ⟨w.heap.size + 1 + 1 + 1, 0, none⟩ = some (.slice none 0 0) := HB.out.r.cell 0
          have q0 : V.frozen? ⟨w.heap.size + 1 + 1 + 1, 0, none⟩ = false := HB.out.r.frz 0
          have r1 : V.cell? ⟨w.heap.size + 1 + 1 + 1, 1, none⟩ = some (.int .i64 0) := HB.out.r.cell 1
          have q1 : V.frozen? ⟨w.heap.size + 1 + 1 + 1, 1, none⟩ = false := HB.out.r.frz 1
          go_wp2_with fail
          clear r0 r1 q0 q1 p0 p1 p2 o0 o1 o2 o3 s0 s1
          have HR : Hid (Bx (V.setCell ⟨w.heap.size + 1 + 1 + 1, 0, none⟩ (.slice none 0 0)) (w.heap.size + 1 + 1 + 1) #[.slice none 0 0, .int .i64 0] 71 ∧ Below w.heap.size w (V.setCell ⟨w.heap.size + 1 + 1 + 1, 0, none⟩ (.slice none 0 0))) := Lib.hid ⟨HB.out.r.set 0 _, HB.out.b.setCell (p := ⟨w.heap.size + 1 + 1 + 1, 0, none⟩) (by simp; omega) _⟩
          generalize V.setCell ⟨w.heap.size + 1 + 1 + 1, 0, none⟩ (.slice none 0 0) = z1 at HR ⊢
          replace HR : Hid (Bx (z1.setCell ⟨w.heap.size + 1 + 1 + 1, 1, none⟩ (.int .i64 0)) (w.heap.size + 1 + 1 + 1) #[.slice none 0 0, .int .i64 0] 71 ∧ Below w.heap.size w (z1.setCell ⟨w.heap.size + 1 + 1 + 1, 1, none⟩ (.int .i64 0))) := Lib.hid ⟨HR.out.1.set 1 _, HR.out.2.setCell (p := ⟨w.heap.size + 1 + 1 + 1, 1, none⟩) (by simp; omega) _⟩
          generalize z1.setCell ⟨w.heap.size + 1 + 1 + 1, 1, none⟩ (.int .i64 0) = z2 at HR ⊢
          have x0 : z2.cell? ⟨w.heap.size + 1 + 1 + 1, 0, none⟩ = some (.slice none 0 0) := HR.out.1.cell 0
          have x1 : z2.cell? ⟨w.heap.size + 1 + 1 + 1, 1, none⟩ = some (.int .i64 0) := HR.out.1.cell 1
          exact bodyPost_ret (v := .tuple #[.agg #[.slice none 0 0, .int .i64 0], .int .i64 21]) (by simp [results, Try.results32, go_sem, x0, x1]) rfl (HErr.out 21 _ rfl (by decide) HR.out.2)

    · obtain rfl : z = -1 := by omega
      have hfit : fitT tk ld = true := (fit_iff tk ld (HLe.out.trans HDl.out.symm)).2 fun j hj => HF.out j (by omega) (by rw [← HLe.out]; exact hj)
      replace HE : Hid (EE = if c = 36 ∧ 10 ≤ hh ∨ c = 37 ∧ hh = 0 then 25 else 0) := Lib.hid (HE.out.trans ((if_neg (by omega)).trans (if_neg (by rw [hfit]; decide))))
      clear hfit hz hz0 hz1
      have HSl : Hid (∀ V, (Instr.sliceAt 48 (.slice sa n sc) (some (.int .i64 left)) none none).run Try.prog V = .ok (.slice (if sc = left then sa else sa.map (·.add (left * 1))) (n - left) (sc - left)) V) := Lib.hid fun V => slice_from sa n sc left (by omega) V
      have HSt : Hid (∀ V, (Instr.sliceAt 48 (.slice sa n sc) none (some (.int .i64 left)) none).run Try.prog V = .ok (.slice (if sc = 0 then sa else sa.map (·.add (0 * 1))) left sc) V) := Lib.hid fun V => slice_to sa n sc left (by omega) V
      have HId : Hid (∀ V, Below w.heap.size w V → Ints V (if sc = left then sa else sa.map (·.add (left * 1))) ld ∧ Ints V (if sc = 0 then sa else sa.map (·.add (0 * 1))) (l.take left)) := Lib.hid fun V hb => ⟨HLd.out ▸ (HIs.out V hb).drop (by rw [HN.out]; omega) (by rw [HN.out]; omega), (HIs.out V hb).take (by rw [HN.out]; omega)⟩
      generalize (if sc = left then sa else sa.map (·.add (left * 1))) = a3 at HSl HId
      generalize (if sc = 0 then sa else sa.map (·.add (0 * 1))) = a4 at HSt HId
      have hnl : n - left = L := by have := HLf.out; omega
      rw [hnl] at HSl
      clear hnl
      have hsl := HSl.out
      have hst := HSt.out
      by_cases h36 : c = 36
      · subst h36
        by_cases hh10 : 10 ≤ hh
        · obtain rfl : EE = 25 := HE.out.trans (if_pos (.inl ⟨rfl, hh10⟩))
          have d10 : decide ((10 : Int) ≤ hh) = true := decide_eq_true hh10
          have p0 : wr.cell? ⟨w.heap.size, 0, none⟩ = some (.slice A.pa P.np A.pc) := HB.out.p.cell 0
          have p1 : wr.cell? ⟨w.heap.size, 1, none⟩ = some (.slice A.ca P.nc A.cc) := HB.out.p.cell 1
          have p2 : wr.cell? ⟨w.heap.size, 2, none⟩ = some (.slice A.ma P.nm A.mc) := HB.out.p.cell 2
          have o0 : wr.cell? ⟨w.heap.size + 1, 0, none⟩ = some (.int .i64 (36 : Nat)) := HB.out.o.cell 0
          have o1 : wr.cell? ⟨w.heap.size + 1, 1, none⟩ = some (.int .i64 a) := HB.out.o.cell 1
          have o2 : wr.cell? ⟨w.heap.size + 1, 2, none⟩ = some (.int .i64 b) := HB.out.o.cell 2
          have o3 : wr.cell? ⟨w.heap.size + 1, 3, none⟩ = some (.int .i64 sz) := HB.out.o.cell 3
          have s0 : wr.cell? ⟨w.heap.size + 1 + 1, 0, none⟩ = some (.slice sa n sc) := HB.out.s.cell 0
          have s1 : wr.cell? ⟨w.heap.size + 1 + 1, 1, none⟩ = some (.int .i64 hh) := HB.out.s.cell 1
          have r0 : wr.cell? ⟨w.heap.size + 1 + 1 + 1, 0, none⟩ = some (.slice none 0 0) := HB.out.r.cell 0
          have q0 : wr.frozen? ⟨w.heap.size + 1 + 1 + 1, 0, none⟩ = false := HB.out.r.frz 0
          have r1 : wr.cell? ⟨w.heap.size + 1 + 1 + 1, 1, none⟩ = some (.int .i64 0) := HB.out.r.cell 1
          have q1 : wr.frozen? ⟨w.heap.size + 1 + 1 + 1, 1, none⟩ = false := HB.out.r.frz 1
          go_wp2_with fail
          clear r0 r1 q0 q1 p0 p1 p2 o0 o1 o2 o3 s0 s1
          have HR : Hid (Bx (wr.setCell ⟨w.heap.size + 1 + 1 + 1, 0, none⟩ (.slice none 0 0)) (w.heap.size + 1 + 1 + 1) #[.slice none 0 0, .int .i64 0] 71 ∧ Below w.heap.size w (wr.setCell ⟨w.heap.size + 1 + 1 + 1, 0, none⟩ (.slice none 0 0))) := Lib.hid ⟨HB.out.r.set 0 _, HB.out.b.setCell (p := ⟨w.heap.size + 1 + 1 + 1, 0, none⟩) (by simp; omega) _⟩
          generalize wr.setCell ⟨w.heap.size + 1 + 1 + 1, 0, none⟩ (.slice none 0 0) = z1 at HR ⊢
          replace HR : Hid (Bx (z1.setCell ⟨w.heap.size + 1 + 1 + 1, 1, none⟩ (.int .i64 0)) (w.heap.size + 1 + 1 + 1) #[.slice none 0 0, .int .i64 0] 71 ∧ Below w.heap.size w (z1.setCell ⟨w.heap.size + 1 + 1 + 1, 1, none⟩ (.int .i64 0))) := Lib.hid ⟨HR.out.1.set 1 _, HR.out.2.setCell (p := ⟨w.heap.size + 1 + 1 + 1, 1, none⟩) (by simp; omega) _⟩
          generalize z1.setCell ⟨w.heap.size + 1 + 1 + 1, 1, none⟩ (.int .i64 0) = z2 at HR ⊢
          have x0 : z2.cell? ⟨w.heap.size + 1 + 1 + 1, 0, none⟩ = some (.slice none 0 0) := HR.out.1.cell 0
          have x1 : z2.cell? ⟨w.heap.size + 1 + 1 + 1, 1, none⟩ = some (.int .i64 0) := HR.out.1.cell 1
          exact bodyPost_ret (v := .tuple #[.agg #[.slice none 0 0, .int .i64 0], .int .i64 25]) (by simp [results, Try.results32, go_sem, x0, x1]) rfl (HErr.out 25 _ rfl (by decide) HR.out.2)

        · have d10 : decide ((10 : Int) ≤ hh) = false := decide_eq_false hh10
          obtain rfl : EE = 0 := HE.out.trans (if_neg (by omega))
          have HhN : Hid (heldN 36 hh = hh + 1) := Lib.hid rfl
          have p0 : wr.cell? ⟨w.heap.size, 0, none⟩ = some (.slice A.pa P.np A.pc) := HB.out.p.cell 0
          have p1 : wr.cell? ⟨w.heap.size, 1, none⟩ = some (.slice A.ca P.nc A.cc) := HB.out.p.cell 1
          have p2 : wr.cell? ⟨w.heap.size, 2, none⟩ = some (.slice A.ma P.nm A.mc) := HB.out.p.cell 2
          have o0 : wr.cell? ⟨w.heap.size + 1, 0, none⟩ = some (.int .i64 (36 : Nat)) := HB.out.o.cell 0
          have o1 : wr.cell? ⟨w.heap.size + 1, 1, none⟩ = some (.int .i64 a) := HB.out.o.cell 1
          have o2 : wr.cell? ⟨w.heap.size + 1, 2, none⟩ = some (.int .i64 b) := HB.out.o.cell 2
          have o3 : wr.cell? ⟨w.heap.size + 1, 3, none⟩ = some (.int .i64 sz) := HB.out.o.cell 3
          have s0 : wr.cell? ⟨w.heap.size + 1 + 1, 0, none⟩ = some (.slice sa n sc) := HB.out.s.cell 0
          have s1 : wr.cell? ⟨w.heap.size + 1 + 1, 1, none⟩ = some (.int .i64 hh) := HB.out.s.cell 1
          go_wp2_with fail
          go_still_tail 7, (by kernel_rfl)
          have hbd : Below w.heap.size w wr.drew := HB.out.b.drew
          have HB : Hid (EfB P A 36 a b sz sa n sc hh w wr.drew) := Lib.hid (HB.out.below (Below.refl _ _).drew)
          have HC71 : Hid (∀ V c3, Below w.heap.size w V → Calls Try.prog 71 #[.agg #[.slice A.pa P.np A.pc, .slice A.ca P.nc A.cc, .slice A.ma P.nm A.mc], .int .i64 m, .agg #[.int .i64 (36 : Nat), .int .i64 a, .int .i64 b, .int .i64 sz], .slice a3 L c3] V (GiveInts (puts P m 36 a b ld) V)) := Lib.hid fun V c3 hb => HDl.out ▸ HPt.out V ld a3 c3 hb (HId.out V hb).1 HDl.out
          go_wp2_with fail
          refine (HC71.out _ _ HB.out.b).mono ?_
          rintro e W5 ⟨pa5, pc5, rfl, hp5, hpc5, hb5⟩
          have HB : Hid (EfB P A 36 a b sz sa n sc hh w W5) := Lib.hid (HB.out.below hb5)
          have HP5 := Lib.hid hp5
          clear hb5 hp5 p0 p1 p2 o0 o1 o2 o3 s0 s1 hbd
          obtain ⟨pu, hpu⟩ : ∃ pu, puts P m 36 a b ld = pu := ⟨_, rfl⟩
          rw [hpu] at HS HP5 hpc5 ⊢
          replace hpu : Hid (pu.length ≤ 2) := Lib.hid (hpu ▸ puts_len P m 36 a b ld)

          have p0 : W5.cell? ⟨w.heap.size, 0, none⟩ = some (.slice A.pa P.np A.pc) := HB.out.p.cell 0
          have p1 : W5.cell? ⟨w.heap.size, 1, none⟩ = some (.slice A.ca P.nc A.cc) := HB.out.p.cell 1
          have p2 : W5.cell? ⟨w.heap.size, 2, none⟩ = some (.slice A.ma P.nm A.mc) := HB.out.p.cell 2
          have o0 : W5.cell? ⟨w.heap.size + 1, 0, none⟩ = some (.int .i64 (36 : Nat)) := HB.out.o.cell 0
          have o1 : W5.cell? ⟨w.heap.size + 1, 1, none⟩ = some (.int .i64 a) := HB.out.o.cell 1
          have o2 : W5.cell? ⟨w.heap.size + 1, 2, none⟩ = some (.int .i64 b) := HB.out.o.cell 2
          have o3 : W5.cell? ⟨w.heap.size + 1, 3, none⟩ = some (.int .i64 sz) := HB.out.o.cell 3
          have s0 : W5.cell? ⟨w.heap.size + 1 + 1, 0, none⟩ = some (.slice sa n sc) := HB.out.s.cell 0
          have s1 : W5.cell? ⟨w.heap.size + 1 + 1, 1, none⟩ = some (.int .i64 hh) := HB.out.s.cell 1
          have hpl : pu.length ≤ 2 := hpu.out
          have HC72 : Hid (Calls Try.prog 72 #[.slice (some ⟨W5.heap.size, 0, none⟩) 2 2] (W5.alloc (.cells #[.slice a4 left sc, .slice pa5 pu.length pc5] 48)) (NewInts (l.take left ++ pu) (W5.alloc (.cells #[.slice a4 left sc, .slice pa5 pu.length pc5] 48)))) := Lib.hid (by
            have hk := Kept.of ((Below.refl W5.heap.size W5).alloc (Nat.le_refl _) (.cells #[.slice a4 left sc, .slice pa5 pu.length pc5] 48))
            have hlt : (l.take left).length = left := by rw [List.length_take, HN.out]; omega
            have hx := Bx.new W5 #[.slice a4 left sc, .slice pa5 pu.length pc5] 48
            exact concat_c W5.heap.size a4 pa5 sc pc5 (l.take left) pu _ (by omega) (by omega) (by simp) (by rw [hlt]; exact hx.cell 0) (hx.cell 1) ((HId.out W5 HB.out.b).2.kept hk) (HP5.out.kept hk))
          have HB6 : Hid (EfB P A 36 a b sz sa n sc hh w (W5.alloc (.cells #[.slice a4 left sc, .slice pa5 pu.length pc5] 48))) := Lib.hid (HB.out.below ((Below.refl _ _).alloc (Nat.le_refl _) _))
          go_wp2_with fail
          generalize W5.alloc (.cells #[.slice a4 left sc, .slice pa5 pu.length pc5] 48) = W6 at HC72 HB6 ⊢
          refine HC72.out.mono ?_
          rintro e W7 ⟨a7, c7, rfl, hi7, hc7, hf7, hb7⟩
          replace HB : Hid (EfB P A 36 a b sz sa n sc hh w W7) := Lib.hid (HB6.out.below hb7)
          have H7 : Hid (Ints W7 a7 (l.take left ++ pu) ∧ (l.take left ++ pu).length ≤ c7 ∧ (∀ p, a7 = some p → w.heap.size ≤ p.block) ∧ ∀ p, a7 = some p → p.block ≠ w.heap.size + 1 + 1 + 1) := Lib.hid ⟨hi7, hc7, fun p hp => Nat.le_trans HB6.out.b.size (hf7 p hp), fun p hp => by have := hf7 p hp; have := HB6.out.r.lt; omega⟩
          clear hi7 hc7 hf7 hb7 HC72
          obtain ⟨N, hN⟩ : ∃ N, (l.take left ++ pu).length = N := ⟨_, rfl⟩
          rw [hN] at H7 ⊢
          have HNl := Lib.hid hN
          clear hN p0 p1 p2 o0 o1 o2 o3 s0 s1
          have r0 : W7.cell? ⟨w.heap.size + 1 + 1 + 1, 0, none⟩ = some (.slice none 0 0) := HB.out.r.cell 0
          have q0 : W7.frozen? ⟨w.heap.size + 1 + 1 + 1, 0, none⟩ = false := HB.out.r.frz 0
          have r1 : W7.cell? ⟨w.heap.size + 1 + 1 + 1, 1, none⟩ = some (.int .i64 0) := HB.out.r.cell 1
          have q1 : W7.frozen? ⟨w.heap.size + 1 + 1 + 1, 1, none⟩ = false := HB.out.r.frz 1
          go_wp2_with fail
          clear r0 r1 q0 q1
          have HR : Hid (Bx (W7.setCell ⟨w.heap.size + 1 + 1 + 1, 0, none⟩ (.slice a7 N c7)) (w.heap.size + 1 + 1 + 1) #[.slice a7 N c7, .int .i64 0] 71 ∧ Below w.heap.size w (W7.setCell ⟨w.heap.size + 1 + 1 + 1, 0, none⟩ (.slice a7 N c7)) ∧ Ints (W7.setCell ⟨w.heap.size + 1 + 1 + 1, 0, none⟩ (.slice a7 N c7)) a7 (l.take left ++ pu)) := Lib.hid ⟨HB.out.r.set 0 _, HB.out.b.setCell (p := ⟨w.heap.size + 1 + 1 + 1, 0, none⟩) (by simp; omega) _, H7.out.1.far H7.out.2.2.2 _ _⟩
          generalize W7.setCell ⟨w.heap.size + 1 + 1 + 1, 0, none⟩ (.slice a7 N c7) = z1 at HR ⊢
          replace HR : Hid (Bx (z1.setCell ⟨w.heap.size + 1 + 1 + 1, 1, none⟩ (.int .i64 (hh + 1))) (w.heap.size + 1 + 1 + 1) #[.slice a7 N c7, .int .i64 (hh + 1)] 71 ∧ Below w.heap.size w (z1.setCell ⟨w.heap.size + 1 + 1 + 1, 1, none⟩ (.int .i64 (hh + 1))) ∧ Ints (z1.setCell ⟨w.heap.size + 1 + 1 + 1, 1, none⟩ (.int .i64 (hh + 1))) a7 (l.take left ++ pu)) := Lib.hid ⟨HR.out.1.set 1 _, HR.out.2.1.setCell (p := ⟨w.heap.size + 1 + 1 + 1, 1, none⟩) (by simp; omega) _, HR.out.2.2.far H7.out.2.2.2 _ _⟩
          generalize z1.setCell ⟨w.heap.size + 1 + 1 + 1, 1, none⟩ (.int .i64 (hh + 1)) = z2 at HR ⊢
          have x0 : z2.cell? ⟨w.heap.size + 1 + 1 + 1, 0, none⟩ = some (.slice a7 N c7) := HR.out.1.cell 0
          have x1 : z2.cell? ⟨w.heap.size + 1 + 1 + 1, 1, none⟩ = some (.int .i64 (hh + 1)) := HR.out.1.cell 1
          refine bodyPost_ret (v := .tuple #[.agg #[.slice a7 N c7, .int .i64 (hh + 1)], .int .i64 0]) (by simp [results, Try.results32, go_sem, x0, x1]) rfl ?_
          have hS := HS.out
          rw [HhN.out] at hS
          exact HOk.out a7 c7 N (hh + 1) z2 (by first | exact rfl | trivial) (by rw [hS]; exact HNl.out) (by rw [hS]) (by rw [hS]; exact HR.out.2.2) H7.out.2.1 H7.out.2.2.1 HR.out.2.1

      by_cases h37 : c = 37
      · subst h37
        by_cases hh10 : hh = 0
        · obtain rfl : EE = 25 := HE.out.trans (if_pos (.inr ⟨rfl, hh10⟩))
          have d10 : (hh == 0) = true := by simpa using hh10
          clear hh10
          have p0 : wr.cell? ⟨w.heap.size, 0, none⟩ = some (.slice A.pa P.np A.pc) := HB.out.p.cell 0
          have p1 : wr.cell? ⟨w.heap.size, 1, none⟩ = some (.slice A.ca P.nc A.cc) := HB.out.p.cell 1
          have p2 : wr.cell? ⟨w.heap.size, 2, none⟩ = some (.slice A.ma P.nm A.mc) := HB.out.p.cell 2
          have o0 : wr.cell? ⟨w.heap.size + 1, 0, none⟩ = some (.int .i64 (37 : Nat)) := HB.out.o.cell 0
          have o1 : wr.cell? ⟨w.heap.size + 1, 1, none⟩ = some (.int .i64 a) := HB.out.o.cell 1
          have o2 : wr.cell? ⟨w.heap.size + 1, 2, none⟩ = some (.int .i64 b) := HB.out.o.cell 2
          have o3 : wr.cell? ⟨w.heap.size + 1, 3, none⟩ = some (.int .i64 sz) := HB.out.o.cell 3
          have s0 : wr.cell? ⟨w.heap.size + 1 + 1, 0, none⟩ = some (.slice sa n sc) := HB.out.s.cell 0
          have s1 : wr.cell? ⟨w.heap.size + 1 + 1, 1, none⟩ = some (.int .i64 hh) := HB.out.s.cell 1
          have r0 : wr.cell? ⟨w.heap.size + 1 + 1 + 1, 0, none⟩ = some (.slice none 0 0) := HB.out.r.cell 0
          have q0 : wr.frozen? ⟨w.heap.size + 1 + 1 + 1, 0, none⟩ = false := HB.out.r.frz 0
          have r1 : wr.cell? ⟨w.heap.size + 1 + 1 + 1, 1, none⟩ = some (.int .i64 0) := HB.out.r.cell 1
          have q1 : wr.frozen? ⟨w.heap.size + 1 + 1 + 1, 1, none⟩ = false := HB.out.r.frz 1
          go_wp2_with fail
          clear r0 r1 q0 q1 p0 p1 p2 o0 o1 o2 o3 s0 s1
          have HR : Hid (Bx (wr.setCell ⟨w.heap.size + 1 + 1 + 1, 0, none⟩ (.slice none 0 0)) (w.heap.size + 1 + 1 + 1) #[.slice none 0 0, .int .i64 0] 71 ∧ Below w.heap.size w (wr.setCell ⟨w.heap.size + 1 + 1 + 1, 0, none⟩ (.slice none 0 0))) := Lib.hid ⟨HB.out.r.set 0 _, HB.out.b.setCell (p := ⟨w.heap.size + 1 + 1 + 1, 0, none⟩) (by simp; omega) _⟩
          generalize wr.setCell ⟨w.heap.size + 1 + 1 + 1, 0, none⟩ (.slice none 0 0) = z1 at HR ⊢
          replace HR : Hid (Bx (z1.setCell ⟨w.heap.size + 1 + 1 + 1, 1, none⟩ (.int .i64 0)) (w.heap.size + 1 + 1 + 1) #[.slice none 0 0, .int .i64 0] 71 ∧ Below w.heap.size w (z1.setCell ⟨w.heap.size + 1 + 1 + 1, 1, none⟩ (.int .i64 0))) := Lib.hid ⟨HR.out.1.set 1 _, HR.out.2.setCell (p := ⟨w.heap.size + 1 + 1 + 1, 1, none⟩) (by simp; omega) _⟩
          generalize z1.setCell ⟨w.heap.size + 1 + 1 + 1, 1, none⟩ (.int .i64 0) = z2 at HR ⊢
          have x0 : z2.cell? ⟨w.heap.size + 1 + 1 + 1, 0, none⟩ = some (.slice none 0 0) := HR.out.1.cell 0
          have x1 : z2.cell? ⟨w.heap.size + 1 + 1 + 1, 1, none⟩ = some (.int .i64 0) := HR.out.1.cell 1
          exact bodyPost_ret (v := .tuple #[.agg #[.slice none 0 0, .int .i64 0], .int .i64 25]) (by simp [results, Try.results32, go_sem, x0, x1]) rfl (HErr.out 25 _ rfl (by decide) HR.out.2)

        · have d10 : (hh == 0) = false := by simpa using hh10
          obtain rfl : EE = 0 := HE.out.trans (if_neg (by omega))
          have HhN : Hid (heldN 37 hh = hh - 1) := Lib.hid rfl
          clear hh10
          have p0 : wr.cell? ⟨w.heap.size, 0, none⟩ = some (.slice A.pa P.np A.pc) := HB.out.p.cell 0
          have p1 : wr.cell? ⟨w.heap.size, 1, none⟩ = some (.slice A.ca P.nc A.cc) := HB.out.p.cell 1
          have p2 : wr.cell? ⟨w.heap.size, 2, none⟩ = some (.slice A.ma P.nm A.mc) := HB.out.p.cell 2
          have o0 : wr.cell? ⟨w.heap.size + 1, 0, none⟩ = some (.int .i64 (37 : Nat)) := HB.out.o.cell 0
          have o1 : wr.cell? ⟨w.heap.size + 1, 1, none⟩ = some (.int .i64 a) := HB.out.o.cell 1
          have o2 : wr.cell? ⟨w.heap.size + 1, 2, none⟩ = some (.int .i64 b) := HB.out.o.cell 2
          have o3 : wr.cell? ⟨w.heap.size + 1, 3, none⟩ = some (.int .i64 sz) := HB.out.o.cell 3
          have s0 : wr.cell? ⟨w.heap.size + 1 + 1, 0, none⟩ = some (.slice sa n sc) := HB.out.s.cell 0
          have s1 : wr.cell? ⟨w.heap.size + 1 + 1, 1, none⟩ = some (.int .i64 hh) := HB.out.s.cell 1
          go_wp2_with fail
          go_still_tail 7, (by kernel_rfl)
          have hbd : Below w.heap.size w wr.drew := HB.out.b.drew
          have HB : Hid (EfB P A 37 a b sz sa n sc hh w wr.drew) := Lib.hid (HB.out.below (Below.refl _ _).drew)
          have HC71 : Hid (∀ V c3, Below w.heap.size w V → Calls Try.prog 71 #[.agg #[.slice A.pa P.np A.pc, .slice A.ca P.nc A.cc, .slice A.ma P.nm A.mc], .int .i64 m, .agg #[.int .i64 (37 : Nat), .int .i64 a, .int .i64 b, .int .i64 sz], .slice a3 L c3] V (GiveInts (puts P m 37 a b ld) V)) := Lib.hid fun V c3 hb => HDl.out ▸ HPt.out V ld a3 c3 hb (HId.out V hb).1 HDl.out
          go_wp2_with fail
          refine (HC71.out _ _ HB.out.b).mono ?_
          rintro e W5 ⟨pa5, pc5, rfl, hp5, hpc5, hb5⟩
          have HB : Hid (EfB P A 37 a b sz sa n sc hh w W5) := Lib.hid (HB.out.below hb5)
          have HP5 := Lib.hid hp5
          clear hb5 hp5 p0 p1 p2 o0 o1 o2 o3 s0 s1 hbd
          obtain ⟨pu, hpu⟩ : ∃ pu, puts P m 37 a b ld = pu := ⟨_, rfl⟩
          rw [hpu] at HS HP5 hpc5 ⊢
          replace hpu : Hid (pu.length ≤ 2) := Lib.hid (hpu ▸ puts_len P m 37 a b ld)

          have p0 : W5.cell? ⟨w.heap.size, 0, none⟩ = some (.slice A.pa P.np A.pc) := HB.out.p.cell 0
          have p1 : W5.cell? ⟨w.heap.size, 1, none⟩ = some (.slice A.ca P.nc A.cc) := HB.out.p.cell 1
          have p2 : W5.cell? ⟨w.heap.size, 2, none⟩ = some (.slice A.ma P.nm A.mc) := HB.out.p.cell 2
          have o0 : W5.cell? ⟨w.heap.size + 1, 0, none⟩ = some (.int .i64 (37 : Nat)) := HB.out.o.cell 0
          have o1 : W5.cell? ⟨w.heap.size + 1, 1, none⟩ = some (.int .i64 a) := HB.out.o.cell 1
          have o2 : W5.cell? ⟨w.heap.size + 1, 2, none⟩ = some (.int .i64 b) := HB.out.o.cell 2
          have o3 : W5.cell? ⟨w.heap.size + 1, 3, none⟩ = some (.int .i64 sz) := HB.out.o.cell 3
          have s0 : W5.cell? ⟨w.heap.size + 1 + 1, 0, none⟩ = some (.slice sa n sc) := HB.out.s.cell 0
          have s1 : W5.cell? ⟨w.heap.size + 1 + 1, 1, none⟩ = some (.int .i64 hh) := HB.out.s.cell 1
          have hpl : pu.length ≤ 2 := hpu.out
          have HC72 : Hid (Calls Try.prog 72 #[.slice (some ⟨W5.heap.size, 0, none⟩) 2 2] (W5.alloc (.cells #[.slice a4 left sc, .slice pa5 pu.length pc5] 48)) (NewInts (l.take left ++ pu) (W5.alloc (.cells #[.slice a4 left sc, .slice pa5 pu.length pc5] 48)))) := Lib.hid (by
            have hk := Kept.of ((Below.refl W5.heap.size W5).alloc (Nat.le_refl _) (.cells #[.slice a4 left sc, .slice pa5 pu.length pc5] 48))
            have hlt : (l.take left).length = left := by rw [List.length_take, HN.out]; omega
            have hx := Bx.new W5 #[.slice a4 left sc, .slice pa5 pu.length pc5] 48
            exact concat_c W5.heap.size a4 pa5 sc pc5 (l.take left) pu _ (by omega) (by omega) (by simp) (by rw [hlt]; exact hx.cell 0) (hx.cell 1) ((HId.out W5 HB.out.b).2.kept hk) (HP5.out.kept hk))
          have HB6 : Hid (EfB P A 37 a b sz sa n sc hh w (W5.alloc (.cells #[.slice a4 left sc, .slice pa5 pu.length pc5] 48))) := Lib.hid (HB.out.below ((Below.refl _ _).alloc (Nat.le_refl _) _))
          go_wp2_with fail
          generalize W5.alloc (.cells #[.slice a4 left sc, .slice pa5 pu.length pc5] 48) = W6 at HC72 HB6 ⊢
          refine HC72.out.mono ?_
          rintro e W7 ⟨a7, c7, rfl, hi7, hc7, hf7, hb7⟩
          replace HB : Hid (EfB P A 37 a b sz sa n sc hh w W7) := Lib.hid (HB6.out.below hb7)
          have H7 : Hid (Ints W7 a7 (l.take left ++ pu) ∧ (l.take left ++ pu).length ≤ c7 ∧ (∀ p, a7 = some p → w.heap.size ≤ p.block) ∧ ∀ p, a7 = some p → p.block ≠ w.heap.size + 1 + 1 + 1) := Lib.hid ⟨hi7, hc7, fun p hp => Nat.le_trans HB6.out.b.size (hf7 p hp), fun p hp => by have := hf7 p hp; have := HB6.out.r.lt; omega⟩
          clear hi7 hc7 hf7 hb7 HC72
          obtain ⟨N, hN⟩ : ∃ N, (l.take left ++ pu).length = N := ⟨_, rfl⟩
          rw [hN] at H7 ⊢
          have HNl := Lib.hid hN
          clear hN p0 p1 p2 o0 o1 o2 o3 s0 s1
          have r0 : W7.cell? ⟨w.heap.size + 1 + 1 + 1, 0, none⟩ = some (.slice none 0 0) := HB.out.r.cell 0
          have q0 : W7.frozen? ⟨w.heap.size + 1 + 1 + 1, 0, none⟩ = false := HB.out.r.frz 0
          have r1 : W7.cell? ⟨w.heap.size + 1 + 1 + 1, 1, none⟩ = some (.int .i64 0) := HB.out.r.cell 1
          have q1 : W7.frozen? ⟨w.heap.size + 1 + 1 + 1, 1, none⟩ = false := HB.out.r.frz 1
          go_wp2_with fail
          clear r0 r1 q0 q1
          have HR : Hid (Bx (W7.setCell ⟨w.heap.size + 1 + 1 + 1, 0, none⟩ (.slice a7 N c7)) (w.heap.size + 1 + 1 + 1) #[.slice a7 N c7, .int .i64 0] 71 ∧ Below w.heap.size w (W7.setCell ⟨w.heap.size + 1 + 1 + 1, 0, none⟩ (.slice a7 N c7)) ∧ Ints (W7.setCell ⟨w.heap.size + 1 + 1 + 1, 0, none⟩ (.slice a7 N c7)) a7 (l.take left ++ pu)) := Lib.hid ⟨HB.out.r.set 0 _, HB.out.b.setCell (p := ⟨w.heap.size + 1 + 1 + 1, 0, none⟩) (by simp; omega) _, H7.out.1.far H7.out.2.2.2 _ _⟩
          generalize W7.setCell ⟨w.heap.size + 1 + 1 + 1, 0, none⟩ (.slice a7 N c7) = z1 at HR ⊢
          replace HR : Hid (Bx (z1.setCell ⟨w.heap.size + 1 + 1 + 1, 1, none⟩ (.int .i64 (hh - 1))) (w.heap.size + 1 + 1 + 1) #[.slice a7 N c7, .int .i64 (hh - 1)] 71 ∧ Below w.heap.size w (z1.setCell ⟨w.heap.size + 1 + 1 + 1, 1, none⟩ (.int .i64 (hh - 1))) ∧ Ints (z1.setCell ⟨w.heap.size + 1 + 1 + 1, 1, none⟩ (.int .i64 (hh - 1))) a7 (l.take left ++ pu)) := Lib.hid ⟨HR.out.1.set 1 _, HR.out.2.1.setCell (p := ⟨w.heap.size + 1 + 1 + 1, 1, none⟩) (by simp; omega) _, HR.out.2.2.far H7.out.2.2.2 _ _⟩
          generalize z1.setCell ⟨w.heap.size + 1 + 1 + 1, 1, none⟩ (.int .i64 (hh - 1)) = z2 at HR ⊢
          have x0 : z2.cell? ⟨w.heap.size + 1 + 1 + 1, 0, none⟩ = some (.slice a7 N c7) := HR.out.1.cell 0
          have x1 : z2.cell? ⟨w.heap.size + 1 + 1 + 1, 1, none⟩ = some (.int .i64 (hh - 1)) := HR.out.1.cell 1
          refine bodyPost_ret (v := .tuple #[.agg #[.slice a7 N c7, .int .i64 (hh - 1)], .int .i64 0]) (by simp [results, Try.results32, go_sem, x0, x1]) rfl ?_
          have hS := HS.out
          rw [HhN.out] at hS
          exact HOk.out a7 c7 N (hh - 1) z2 (by first | exact rfl | trivial) (by rw [hS]; exact HNl.out) (by rw [hS]) (by rw [hS]; exact HR.out.2.2) H7.out.2.1 H7.out.2.2.1 HR.out.2.1

      have e36 : ((c : Int) == 36) = false := eqB_n h36
      have e37 : ((c : Int) == 37) = false := eqB_n h37
      obtain rfl : EE = 0 := HE.out.trans (if_neg (by omega))
      have HhN : Hid (heldN c hh = hh) := Lib.hid (by unfold heldN; rw [if_neg h36, if_neg h37])
      have p0 : wr.cell? ⟨w.heap.size, 0, none⟩ = some (.slice A.pa P.np A.pc) := HB.out.p.cell 0
      have p1 : wr.cell? ⟨w.heap.size, 1, none⟩ = some (.slice A.ca P.nc A.cc) := HB.out.p.cell 1
      have p2 : wr.cell? ⟨w.heap.size, 2, none⟩ = some (.slice A.ma P.nm A.mc) := HB.out.p.cell 2
      have o0 : wr.cell? ⟨w.heap.size + 1, 0, none⟩ = some (.int .i64 c) := HB.out.o.cell 0
      have o1 : wr.cell? ⟨w.heap.size + 1, 1, none⟩ = some (.int .i64 a) := HB.out.o.cell 1
      have o2 : wr.cell? ⟨w.heap.size + 1, 2, none⟩ = some (.int .i64 b) := HB.out.o.cell 2
      have o3 : wr.cell? ⟨w.heap.size + 1, 3, none⟩ = some (.int .i64 sz) := HB.out.o.cell 3
      have s0 : wr.cell? ⟨w.heap.size + 1 + 1, 0, none⟩ = some (.slice sa n sc) := HB.out.s.cell 0
      have s1 : wr.cell? ⟨w.heap.size + 1 + 1, 1, none⟩ = some (.int .i64 hh) := HB.out.s.cell 1
      go_wp2_with fail
      go_still_tail 7, (by kernel_rfl)
      have hbd : Below w.heap.size w wr.drew := HB.out.b.drew
      have HB : Hid (EfB P A c a b sz sa n sc hh w wr.drew) := Lib.hid (HB.out.below (Below.refl _ _).drew)
      have HC71 : Hid (∀ V c3, Below w.heap.size w V → Calls Try.prog 71 #[.agg #[.slice A.pa P.np A.pc, .slice A.ca P.nc A.cc, .slice A.ma P.nm A.mc], .int .i64 m, .agg #[.int .i64 c, .int .i64 a, .int .i64 b, .int .i64 sz], .slice a3 L c3] V (GiveInts (puts P m c a b ld) V)) := Lib.hid fun V c3 hb => HDl.out ▸ HPt.out V ld a3 c3 hb (HId.out V hb).1 HDl.out
      go_wp2_with fail
      refine (HC71.out _ _ HB.out.b).mono ?_
      rintro e W5 ⟨pa5, pc5, rfl, hp5, hpc5, hb5⟩
      have HB : Hid (EfB P A c a b sz sa n sc hh w W5) := Lib.hid (HB.out.below hb5)
      have HP5 := Lib.hid hp5
      clear hb5 hp5 p0 p1 p2 o0 o1 o2 o3 s0 s1 hbd
      obtain ⟨pu, hpu⟩ : ∃ pu, puts P m c a b ld = pu := ⟨_, rfl⟩
      rw [hpu] at HS HP5 hpc5 ⊢
      replace hpu : Hid (pu.length ≤ 2) := Lib.hid (hpu ▸ puts_len P m c a b ld)

      have p0 : W5.cell? ⟨w.heap.size, 0, none⟩ = some (.slice A.pa P.np A.pc) := HB.out.p.cell 0
      have p1 : W5.cell? ⟨w.heap.size, 1, none⟩ = some (.slice A.ca P.nc A.cc) := HB.out.p.cell 1
      have p2 : W5.cell? ⟨w.heap.size, 2, none⟩ = some (.slice A.ma P.nm A.mc) := HB.out.p.cell 2
      have o0 : W5.cell? ⟨w.heap.size + 1, 0, none⟩ = some (.int .i64 c) := HB.out.o.cell 0
      have o1 : W5.cell? ⟨w.heap.size + 1, 1, none⟩ = some (.int .i64 a) := HB.out.o.cell 1
      have o2 : W5.cell? ⟨w.heap.size + 1, 2, none⟩ = some (.int .i64 b) := HB.out.o.cell 2
      have o3 : W5.cell? ⟨w.heap.size + 1, 3, none⟩ = some (.int .i64 sz) := HB.out.o.cell 3
      have s0 : W5.cell? ⟨w.heap.size + 1 + 1, 0, none⟩ = some (.slice sa n sc) := HB.out.s.cell 0
      have s1 : W5.cell? ⟨w.heap.size + 1 + 1, 1, none⟩ = some (.int .i64 hh) := HB.out.s.cell 1
      have hpl : pu.length ≤ 2 := hpu.out
      have HC72 : Hid (Calls Try.prog 72 #[.slice (some ⟨W5.heap.size, 0, none⟩) 2 2] (W5.alloc (.cells #[.slice a4 left sc, .slice pa5 pu.length pc5] 48)) (NewInts (l.take left ++ pu) (W5.alloc (.cells #[.slice a4 left sc, .slice pa5 pu.length pc5] 48)))) := Lib.hid (by
        have hk := Kept.of ((Below.refl W5.heap.size W5).alloc (Nat.le_refl _) (.cells #[.slice a4 left sc, .slice pa5 pu.length pc5] 48))
        have hlt : (l.take left).length = left := by rw [List.length_take, HN.out]; omega
        have hx := Bx.new W5 #[.slice a4 left sc, .slice pa5 pu.length pc5] 48
        exact concat_c W5.heap.size a4 pa5 sc pc5 (l.take left) pu _ (by omega) (by omega) (by simp) (by rw [hlt]; exact hx.cell 0) (hx.cell 1) ((HId.out W5 HB.out.b).2.kept hk) (HP5.out.kept hk))
      have HB6 : Hid (EfB P A c a b sz sa n sc hh w (W5.alloc (.cells #[.slice a4 left sc, .slice pa5 pu.length pc5] 48))) := Lib.hid (HB.out.below ((Below.refl _ _).alloc (Nat.le_refl _) _))
      go_wp2_with fail
      generalize W5.alloc (.cells #[.slice a4 left sc, .slice pa5 pu.length pc5] 48) = W6 at HC72 HB6 ⊢
      refine HC72.out.mono ?_
      rintro e W7 ⟨a7, c7, rfl, hi7, hc7, hf7, hb7⟩
      replace HB : Hid (EfB P A c a b sz sa n sc hh w W7) := Lib.hid (HB6.out.below hb7)
      have H7 : Hid (Ints W7 a7 (l.take left ++ pu) ∧ (l.take left ++ pu).length ≤ c7 ∧ (∀ p, a7 = some p → w.heap.size ≤ p.block) ∧ ∀ p, a7 = some p → p.block ≠ w.heap.size + 1 + 1 + 1) := Lib.hid ⟨hi7, hc7, fun p hp => Nat.le_trans HB6.out.b.size (hf7 p hp), fun p hp => by have := hf7 p hp; have := HB6.out.r.lt; omega⟩
      clear hi7 hc7 hf7 hb7 HC72
      obtain ⟨N, hN⟩ : ∃ N, (l.take left ++ pu).length = N := ⟨_, rfl⟩
      rw [hN] at H7 ⊢
      have HNl := Lib.hid hN
      clear hN p0 p1 p2 o0 o1 o2 o3 s0 s1
      have r0 : W7.cell? ⟨w.heap.size + 1 + 1 + 1, 0, none⟩ = some (.slice none 0 0) := HB.out.r.cell 0
      have q0 : W7.frozen? ⟨w.heap.size + 1 + 1 + 1, 0, none⟩ = false := HB.out.r.frz 0
      have r1 : W7.cell? ⟨w.heap.size + 1 + 1 + 1, 1, none⟩ = some (.int .i64 0) := HB.out.r.cell 1
      have q1 : W7.frozen? ⟨w.heap.size + 1 + 1 + 1, 1, none⟩ = false := HB.out.r.frz 1
      go_wp2_with fail
      clear r0 r1 q0 q1
      have HR : Hid (Bx (W7.setCell ⟨w.heap.size + 1 + 1 + 1, 0, none⟩ (.slice a7 N c7)) (w.heap.size + 1 + 1 + 1) #[.slice a7 N c7, .int .i64 0] 71 ∧ Below w.heap.size w (W7.setCell ⟨w.heap.size + 1 + 1 + 1, 0, none⟩ (.slice a7 N c7)) ∧ Ints (W7.setCell ⟨w.heap.size + 1 + 1 + 1, 0, none⟩ (.slice a7 N c7)) a7 (l.take left ++ pu)) := Lib.hid ⟨HB.out.r.set 0 _, HB.out.b.setCell (p := ⟨w.heap.size + 1 + 1 + 1, 0, none⟩) (by simp; omega) _, H7.out.1.far H7.out.2.2.2 _ _⟩
      generalize W7.setCell ⟨w.heap.size + 1 + 1 + 1, 0, none⟩ (.slice a7 N c7) = z1 at HR ⊢
      replace HR : Hid (Bx (z1.setCell ⟨w.heap.size + 1 + 1 + 1, 1, none⟩ (.int .i64 hh)) (w.heap.size + 1 + 1 + 1) #[.slice a7 N c7, .int .i64 hh] 71 ∧ Below w.heap.size w (z1.setCell ⟨w.heap.size + 1 + 1 + 1, 1, none⟩ (.int .i64 hh)) ∧ Ints (z1.setCell ⟨w.heap.size + 1 + 1 + 1, 1, none⟩ (.int .i64 hh)) a7 (l.take left ++ pu)) := Lib.hid ⟨HR.out.1.set 1 _, HR.out.2.1.setCell (p := ⟨w.heap.size + 1 + 1 + 1, 1, none⟩) (by simp; omega) _, HR.out.2.2.far H7.out.2.2.2 _ _⟩
      generalize z1.setCell ⟨w.heap.size + 1 + 1 + 1, 1, none⟩ (.int .i64 hh) = z2 at HR ⊢
      have x0 : z2.cell? ⟨w.heap.size + 1 + 1 + 1, 0, none⟩ = some (.slice a7 N c7) := HR.out.1.cell 0
      have x1 : z2.cell? ⟨w.heap.size + 1 + 1 + 1, 1, none⟩ = some (.int .i64 hh) := HR.out.1.cell 1
      refine bodyPost_ret (v := .tuple #[.agg #[.slice a7 N c7, .int .i64 hh], .int .i64 0]) (by simp [results, Try.results32, go_sem, x0, x1]) rfl ?_
      have hS := HS.out
      rw [HhN.out] at hS
      exact HOk.out a7 c7 N hh z2 (by first | exact rfl | trivial) (by rw [hS]; exact HNl.out) (by rw [hS]) (by rw [hS]; exact HR.out.2.2) H7.out.2.1 H7.out.2.2.1 HR.out.2.1
end Go.Proofs.Ytpiafgmncfibmaa.Vf
