import Derived.RangeFuncRecord
import Derived.Laws.BitsLemmas
import Derived.IntWalk
import Derived.Laws.BitsAllLaws
import Derived.Deep.DrawnRows
import Derived.Deep.RegionLaw
import Derived.Test.YtgdlcnngplfjnaaDoorVb
import Derived.Test.YtgdlcnngplfjnaaDoorVe
import Derived.Test.YtgdlcnngplfjnaaDoorVk
import Derived.Test.YtgdlcnngplfjnaaDoorRows
import Derived.WalkKit
import Derived.ProofKit
import Derived.OpenShut
import Derived.Deep.QuietTactic
import Derived.BigQuiet
import Derived.Outline
import Derived.WalkSmall
import Derived.WalkLawsBesides
import Derived.WalkSpells
import Derived.BigGuardPart
import Derived.RegionTactic
import Derived.Deep.RegionHeld3
import Derived.Lib.Hide
import Derived.Deep.MidRow
import Derived.Below
import Derived.Deep.RegionWith
import Derived.Deep.OwnRows
import Derived.Deep.AppendLies
import Derived.Deep.RegionLaw
import Derived.Deep.CutBlock
import Derived.Deep.DeepCutAuto
namespace Go.Proofs.YtgdlcnngplfjnaaDoor.Vf
open Go.ChangeShapes Go.WideShapes Go.ChangeAt Go.RowKit
set_option linter.unusedVariables false

/-- A method's code. -/
structure CodeIn (w : World) (a : Option Addr) (n c : Nat) (D : Nat → Nat) : Prop where
  big : n ≤ 5000
  cap : n ≤ c
  byt : ∀ i, i < n → D i < 256
  row : Row1 w a n fun i => .int .u8 (D i : Nat)
theorem CodeIn.kept {w w' : World} {a : Option Addr} {n c : Nat} {D : Nat → Nat} (h : CodeIn w a n c D) (k : Kept w w') : CodeIn w' a n c D := ⟨h.big, h.cap, h.byt, h.row.kept k⟩
theorem next_y (w : World) (g : Nat) (s : ByteArray) (pos p' v : Nat) (hp : pos + 1 = p') (hg : w.heap[g]? = some (.stringIter s pos)) (h : pos < s.size) (ha : v < 128) (hv : (s[pos]'h).toNat = v) (ty : TypeId) : (Instr.next (.pointer (some ⟨g, 0, none⟩)) true ty).run Tryd.prog w = .ok (.tuple #[.bool true, .int .i64 pos, .int .i32 v]) (w.putObj g (.stringIter s p')) := by
  subst hp
  simp only [Instr.next, getObj, setObj, Sem.run_bind, Sem.run, hg, Result.andThen, h, if_true, decode_ascii s pos h (by rw [hv]; exact ha)]
  simp [goInt, World.putObj, hv]
theorem next_n (w : World) (g : Nat) (s : ByteArray) (pos : Nat) (hg : w.heap[g]? = some (.stringIter s pos)) (h : ¬ pos < s.size) (ty : TypeId) : (Instr.next (.pointer (some ⟨g, 0, none⟩)) true ty).run Tryd.prog w = .ok (.tuple #[.bool false]) w := by
  simp [Instr.next, getObj, Sem.run, hg, h]
theorem put_same (w : World) (g : Nat) (o o' : Obj) (hg : w.heap[g]? = some o) : (w.putObj g o').heap[g]? = some o' := by
  have := (Array.getElem?_eq_some_iff.1 hg).1
  simp [World.putObj, this]
theorem put_far (w : World) (g k : Nat) (o : Obj) (h : k ≠ g) : (w.putObj g o).heap[k]? = w.heap[k]? := by
  simp [World.putObj, Ne.symm h]
theorem put_grown (w : World) (g : Nat) (o : Obj) : w.grownBy (w.putObj g o) (some g) := ⟨rfl, rfl, rfl, by simp [World.putObj], fun k _ hne => put_far _ _ _ _ (fun e => hne (by rw [e]))⟩
def ret4 (a b c d : Int) : Array Value := #[.int .i64 a, .int .i64 b, .int .i64 c, .int .i64 d]
/-- What Read answers at a place within. -/
def rdC (n : Nat) (D : Nat → Nat) (k : Nat) : Array Value := if rdE n D k = 0 then ret4 (D k : Nat) (opA D k) (opB D k) (szK (kindO (D k)) : Nat) else ret4 0 0 0 0
set_option maxRecDepth 100000 in
set_option maxHeartbeats 4000000 in
theorem cread_c (a : Option Addr) (n c : Nat) (D : Nat → Nat) (k : Nat) (w : World) (hI : CodeIn w a n c D) (hk : k < n) : Calls Tryd.prog 9 #[.slice a n c, .int .i64 k] w fun e w' => e = .returned (.tuple #[.agg (rdC n D k), .int .i64 (rdE n D k)]) ∧ Below w.heap.size w w' := by
  have hn := hI.big
  have hcap := hI.cap
  obtain ⟨b, o, rfl, hb, hc⟩ := hI.row.resolve_left (by omega)
  have q0 := hc k hk
  have hd := hI.byt k hk
  have HD := Lib.hid hI.byt
  have HC := Lib.hid hc
  have HE : Hid (rdE n D k = if 41 ≤ D k then 5 else if n < k + szK (kindO (D k)) then 6 else 0) := Lib.hid rfl
  have HV : Hid (∀ e, rdE n D k = e → e ≠ 0 → rdC n D k = ret4 0 0 0 0) := Lib.hid fun e he h => if_neg (by rw [he]; exact h)
  have HV0 : Hid (rdE n D k = 0 → rdC n D k = ret4 (D k : Nat) (opA D k) (opB D k) (szK (kindO (D k)) : Nat)) := Lib.hid fun h => if_pos h
  have HA : Hid (opA D k = if kindO (D k) = 0 then 0 else if kindO (D k) = 2 then IntKind.i8.wrap (D (k + 1) : Nat) else if kindO (D k) = 3 then IntKind.i16.wrap (D (k + 1) + 256 * D (k + 2) : Nat) else ((D (k + 1) : Nat) : Int)) := Lib.hid rfl
  have HB : Hid (opB D k = if kindO (D k) = 4 then ((D (k + 2) : Nat) : Int) else 0) := Lib.hid rfl
  obtain ⟨x, hx⟩ : ∃ x, D k = x := ⟨_, rfl⟩
  have HX := Lib.hid hx
  replace q0 : w.cell? ⟨b, o + k, none⟩ = some (.int .u8 (x : Nat)) := by rw [q0]; simp only [hx]
  rw [hx] at hd HE HV0 HA HB
  generalize rdE n D k = RE at HE HV HV0 ⊢
  generalize rdC n D k = RC at HV HV0 ⊢
  generalize opA D k = OA at HA HV0
  generalize opB D k = OB at HB HV0
  clear hx hc hI
  have hne : b ≠ w.heap.size := by omega
  have hne2 : b ≠ w.heap.size + 1 := by omega
  have g0 : (0 : Int) ≤ (k : Int) := by omega
  have d0 : decide ((n : Int) < (k : Int)) = false := decide_eq_false (by omega)
  have d2 : ((k : Int) == (n : Int)) = false := by simpa using (show ¬ (k : Int) = n by omega)
  go_enter Tryd.func9, Tryd.ntmps9
  go_wp2_with fail
  by_cases hcode : 41 ≤ x
  · have HI2 : Hid (∀ W, Calls Tryd.prog 25 #[.int .i64 (x : Nat)] W fun e w' => e = .returned (.bool false) ∧ w' = W) := Lib.hid fun W => (decide_eq_false (show ¬ (0 ≤ (x : Int) ∧ (x : Int) < 41) by omega)) ▸ isCode_c (x : Int) W
    refine (HI2.out _).mono ?_
    rintro e w1 ⟨rfl, rfl⟩
    obtain rfl : RE = 5 := HE.out.trans (if_pos hcode)
    obtain rfl := HV.out 5 rfl (by decide)
    go_wp2
    exact bodyPost_ret (v := .tuple #[.agg (ret4 0 0 0 0), .int .i64 5]) (by simp [results, Tryd.results9, go_sem, ret4]) rfl ⟨rfl, ((Below.refl _ _).alloc (Nat.le_refl _) _).alloc (by simp) _⟩
  have HI2 : Hid (∀ W, Calls Tryd.prog 25 #[.int .i64 (x : Nat)] W fun e w' => e = .returned (.bool true) ∧ w' = W) := Lib.hid fun W => (decide_eq_true (show 0 ≤ (x : Int) ∧ (x : Int) < 41 by omega)) ▸ isCode_c (x : Int) W
  refine (HI2.out _).mono ?_
  rintro e w1 ⟨rfl, rfl⟩
  go_wp2_with fail
  obtain ⟨W, hW⟩ : ∃ W, W = (w.alloc (.cells #[.int .i64 0, .int .i64 0, .int .i64 0, .int .i64 0] 25)).alloc (.cells #[.int .i64 x, .int .i64 0, .int .i64 0, .int .i64 0] 25) := ⟨_, rfl⟩
  have HW : Hid (Bx W w.heap.size #[.int .i64 0, .int .i64 0, .int .i64 0, .int .i64 0] 25 ∧ Bx W (w.heap.size + 1) #[.int .i64 x, .int .i64 0, .int .i64 0, .int .i64 0] 25 ∧ Below w.heap.size w W) := Lib.hid (by
    rw [hW]
    refine ⟨(Bx.new w _ 25).alloc _, ?_, ((Below.refl _ _).alloc (Nat.le_refl _) _).alloc (by simp) _⟩
    have h9 := Bx.new (w.alloc (.cells #[.int .i64 0, .int .i64 0, .int .i64 0, .int .i64 0] 25)) #[.int .i64 x, .int .i64 0, .int .i64 0, .int .i64 0] 25
    rw [show (w.alloc (.cells #[.int .i64 0, .int .i64 0, .int .i64 0, .int .i64 0] 25)).heap.size = w.heap.size + 1 by simp] at h9
    exact h9)
  rw [← hW]
  clear hW
  refine (sizeOf_c _ _).mono ?_
  rintro e W1 ⟨rfl, hb1⟩
  have HB1 : Hid (Bx W1 w.heap.size #[.int .i64 0, .int .i64 0, .int .i64 0, .int .i64 0] 25 ∧ Bx W1 (w.heap.size + 1) #[.int .i64 x, .int .i64 0, .int .i64 0, .int .i64 0] 25 ∧ Below w.heap.size w W1) := Lib.hid ⟨HW.out.1.below hb1, HW.out.2.1.below hb1, HW.out.2.2.trans (hb1.mono HW.out.2.2.size)⟩
  clear hb1
  have hsz := szK_int (kindO x)
  have hs3 := szK_bd (kindO x)
  have HOp : Hid (∀ V, Calls Tryd.prog 27 #[.int .i64 x] V fun e w' => e = .returned (.string (kindS (kindO x))) ∧ w' = V) := Lib.hid fun V => operands_c x V
  obtain ⟨kd, hkd⟩ : ∃ q, kindO (x : Int) = q := ⟨_, rfl⟩
  have HKd := Lib.hid hkd
  rw [hkd] at HE HV0 HA HB HOp hsz hs3 ⊢
  clear hkd
  obtain ⟨sz, hz⟩ : ∃ q : Nat, szK kd = q := ⟨_, rfl⟩
  have HSz := Lib.hid hz
  rw [hsz]
  rw [hz] at HE HV0 hs3 ⊢
  clear hsz hz
  have y3 : W1.frozen? ⟨w.heap.size + 1, 3, none⟩ = false := HB1.out.2.1.frz 3
  have y3' : W1.cell? ⟨w.heap.size + 1, 3, none⟩ = some (.int .i64 0) := HB1.out.2.1.cell 3
  by_cases hsh : n < k + sz
  · obtain rfl : RE = 6 := HE.out.trans ((if_neg hcode).trans (if_pos hsh))
    obtain rfl := HV.out 6 rfl (by decide)
    have d1 : decide ((n : Int) - (k : Int) < (sz : Int)) = true := decide_eq_true (by omega)
    have u0 : W1.cell? ⟨w.heap.size, 0, none⟩ = some (.int .i64 0) := HB1.out.1.cell 0
    have t0 : W1.frozen? ⟨w.heap.size, 0, none⟩ = false := HB1.out.1.frz 0
    have u1 : W1.cell? ⟨w.heap.size, 1, none⟩ = some (.int .i64 0) := HB1.out.1.cell 1
    have t1 : W1.frozen? ⟨w.heap.size, 1, none⟩ = false := HB1.out.1.frz 1
    have u2 : W1.cell? ⟨w.heap.size, 2, none⟩ = some (.int .i64 0) := HB1.out.1.cell 2
    have t2 : W1.frozen? ⟨w.heap.size, 2, none⟩ = false := HB1.out.1.frz 2
    have u3 : W1.cell? ⟨w.heap.size, 3, none⟩ = some (.int .i64 0) := HB1.out.1.cell 3
    have t3 : W1.frozen? ⟨w.heap.size, 3, none⟩ = false := HB1.out.1.frz 3
    go_wp2_with fail
    clear u0 u1 u2 u3 t0 t1 t2 t3 y3 y3'
    have HR : Hid (Bx (W1.setCell ⟨w.heap.size + 1, 3, none⟩ (.int .i64 sz)) w.heap.size #[.int .i64 0, .int .i64 0, .int .i64 0, .int .i64 0] 25 ∧ Below w.heap.size w (W1.setCell ⟨w.heap.size + 1, 3, none⟩ (.int .i64 sz))) := Lib.hid ⟨HB1.out.1.far (by omega) 3 _, HB1.out.2.2.setCell (p := ⟨w.heap.size + 1, 3, none⟩) (by simp) _⟩
    generalize W1.setCell ⟨w.heap.size + 1, 3, none⟩ (.int .i64 sz) = v0 at HR ⊢
    replace HR : Hid (Bx ((v0).setCell ⟨w.heap.size, 0, none⟩ (.int .i64 0)) w.heap.size #[.int .i64 0, .int .i64 0, .int .i64 0, .int .i64 0] 25 ∧ Below w.heap.size w ((v0).setCell ⟨w.heap.size, 0, none⟩ (.int .i64 0))) := Lib.hid ⟨HR.out.1.set 0 (.int .i64 0), HR.out.2.setCell (p := ⟨w.heap.size, 0, none⟩) (Nat.le_refl _) _⟩
    generalize v0.setCell ⟨w.heap.size, 0, none⟩ (.int .i64 0) = v1 at HR ⊢
    replace HR : Hid (Bx ((v1).setCell ⟨w.heap.size, 1, none⟩ (.int .i64 0)) w.heap.size #[.int .i64 0, .int .i64 0, .int .i64 0, .int .i64 0] 25 ∧ Below w.heap.size w ((v1).setCell ⟨w.heap.size, 1, none⟩ (.int .i64 0))) := Lib.hid ⟨HR.out.1.set 1 (.int .i64 0), HR.out.2.setCell (p := ⟨w.heap.size, 1, none⟩) (Nat.le_refl _) _⟩
    generalize v1.setCell ⟨w.heap.size, 1, none⟩ (.int .i64 0) = v2 at HR ⊢
    replace HR : Hid (Bx ((v2).setCell ⟨w.heap.size, 2, none⟩ (.int .i64 0)) w.heap.size #[.int .i64 0, .int .i64 0, .int .i64 0, .int .i64 0] 25 ∧ Below w.heap.size w ((v2).setCell ⟨w.heap.size, 2, none⟩ (.int .i64 0))) := Lib.hid ⟨HR.out.1.set 2 (.int .i64 0), HR.out.2.setCell (p := ⟨w.heap.size, 2, none⟩) (Nat.le_refl _) _⟩
    generalize v2.setCell ⟨w.heap.size, 2, none⟩ (.int .i64 0) = v3 at HR ⊢
    replace HR : Hid (Bx ((v3).setCell ⟨w.heap.size, 3, none⟩ (.int .i64 0)) w.heap.size #[.int .i64 0, .int .i64 0, .int .i64 0, .int .i64 0] 25 ∧ Below w.heap.size w ((v3).setCell ⟨w.heap.size, 3, none⟩ (.int .i64 0))) := Lib.hid ⟨HR.out.1.set 3 (.int .i64 0), HR.out.2.setCell (p := ⟨w.heap.size, 3, none⟩) (Nat.le_refl _) _⟩
    generalize v3.setCell ⟨w.heap.size, 3, none⟩ (.int .i64 0) = v4 at HR ⊢
    have x0 : v4.cell? ⟨w.heap.size, 0, none⟩ = some (.int .i64 0) := HR.out.1.cell 0
    have x1 : v4.cell? ⟨w.heap.size, 1, none⟩ = some (.int .i64 0) := HR.out.1.cell 1
    have x2 : v4.cell? ⟨w.heap.size, 2, none⟩ = some (.int .i64 0) := HR.out.1.cell 2
    have x3 : v4.cell? ⟨w.heap.size, 3, none⟩ = some (.int .i64 0) := HR.out.1.cell 3
    exact bodyPost_ret (v := .tuple #[.agg (ret4 0 0 0 0), .int .i64 6]) (by simp [results, Tryd.results9, go_sem, x0, x1, x2, x3, ret4]) rfl ⟨rfl, HR.out.2⟩
  have d1 : decide ((n : Int) - (k : Int) < (sz : Int)) = false := decide_eq_false (by omega)
  obtain rfl : RE = 0 := HE.out.trans ((if_neg hcode).trans (if_neg hsh))
  obtain rfl := HV0.out rfl
  have e1 : ((k : Int) + 1).toNat = k + 1 := by omega
  have e2 : ((k : Int) + sz).toNat = k + sz := by omega
  have e3 : (0 : Int) ≤ (k : Int) + 1 := by omega
  have e4 : (k : Int) + 1 ≤ k + sz := by omega
  have e5 : (k : Int) + sz ≤ c := by omega
  have HW2 : Hid (Bx (W1.setCell ⟨w.heap.size + 1, 3, none⟩ (.int .i64 sz)) w.heap.size #[.int .i64 0, .int .i64 0, .int .i64 0, .int .i64 0] 25 ∧ Bx (W1.setCell ⟨w.heap.size + 1, 3, none⟩ (.int .i64 sz)) (w.heap.size + 1) #[.int .i64 x, .int .i64 0, .int .i64 0, .int .i64 sz] 25 ∧ Below w.heap.size w (W1.setCell ⟨w.heap.size + 1, 3, none⟩ (.int .i64 sz))) := Lib.hid ⟨HB1.out.1.far (by omega) 3 _, HB1.out.2.1.set 3 _, HB1.out.2.2.setCell (p := ⟨w.heap.size + 1, 3, none⟩) (by simp) _⟩
  obtain ⟨W2, hW2⟩ : ∃ V, V = W1.setCell ⟨w.heap.size + 1, 3, none⟩ (.int .i64 sz) := ⟨_, rfl⟩
  rw [← hW2] at HW2
  go_upto_region 9 with fail
  rw [← hW2]
  clear y3 y3' hW2 HB1
  have z0 : W2.cell? ⟨w.heap.size + 1, 0, none⟩ = some (.int .i64 x) := HW2.out.2.1.cell 0
  have z3 : W2.cell? ⟨w.heap.size + 1, 3, none⟩ = some (.int .i64 sz) := HW2.out.2.1.cell 3
  have HIt : Hid (∀ s, Bx (W2.iter s 0) w.heap.size #[.int .i64 0, .int .i64 0, .int .i64 0, .int .i64 0] 25 ∧ Bx (W2.iter s 0) (w.heap.size + 1) #[.int .i64 x, .int .i64 0, .int .i64 0, .int .i64 sz] 25 ∧ (W2.iter s 0).heap[W2.heap.size]? = some (.stringIter s 0) ∧ Below w.heap.size w (W2.iter s 0)) := Lib.hid fun s => ⟨HW2.out.1.alloc _, HW2.out.2.1.alloc _, World.iter_heap _ _ _, HW2.out.2.2.alloc HW2.out.2.2.size _⟩
  have hg : w.heap.size + 1 < W2.heap.size := HW2.out.2.1.lt
  rcases kcase kd with rfl | rfl | rfl | rfl | hkd
  · have hs2 : 2 ≤ sz ∧ sz ≤ 2 := by have := HSz.out; rw [show szK 1 = 2 from rfl] at this; omega
    have hO : Hid (∀ V, Calls Tryd.prog 27 #[.int .i64 x] V fun e w' => e = .returned (.string ⟨#[117]⟩) ∧ w' = V) := HOp
    obtain rfl : ((D (k + 1) : Nat) : Int) = OA := HA.out.symm
    obtain rfl : 0 = OB := HB.out.symm
    have b1 := HD.out (k + 1) (by omega)
    have n1 : Hid (∀ V, Below w.heap.size w V → V.cell? ⟨b, o + (k + 1), none⟩ = some (.int .u8 (D (k + 1) : Nat))) := Lib.hid fun V hV => (hV.cell (p := ⟨b, o + (k + 1), none⟩) hb).trans (HC.out (k + 1) (by omega))
    obtain ⟨gI, hgI⟩ : ∃ q, q = W2.heap.size := ⟨_, rfl⟩
    have HT := Lib.hid (HIt.out ⟨#[117]⟩)
    rw [← hgI] at HT hg
    have HGI := Lib.hid hgI
    clear hgI
    have ck : c ≠ k + 1 := by omega
    obtain ⟨y1, hy1⟩ : ∃ y, D (k + 1) = y := ⟨_, rfl⟩
    rw [hy1] at b1 n1
    have HY1 := Lib.hid hy1
    clear hy1
    go_wp2_with fail
    all_goals (try (exfalso; omega))
    refine (hO.out _).mono ?_
    rintro e W2 ⟨rfl, rfl⟩
    go_wp2_with fail
    rw [← HGI.out]
    obtain ⟨V0, hV0⟩ : ∃ V, V = W2.iter ⟨#[117]⟩ 0 := ⟨_, rfl⟩
    rw [← hV0] at HT ⊢
    clear hV0
    have HR := HT
    clear HT
    refine wp_loop_rounds 2 ?_
    rw [rounds_succ]
    have q := fun ty => next_y V0 gI ⟨#[117]⟩ 0 1 117 rfl HR.out.2.2.1 (by decide) (by decide) rfl ty
    have HR1 : Hid (Bx (V0.putObj gI (.stringIter ⟨#[117]⟩ 1)) w.heap.size #[.int .i64 0, .int .i64 0, .int .i64 0, .int .i64 0] 25 ∧ Bx (V0.putObj gI (.stringIter ⟨#[117]⟩ 1)) (w.heap.size + 1) #[.int .i64 x, .int .i64 0, .int .i64 0, .int .i64 sz] 25 ∧ (V0.putObj gI (.stringIter ⟨#[117]⟩ 1)).heap[gI]? = some (.stringIter ⟨#[117]⟩ 1) ∧ Below w.heap.size w (V0.putObj gI (.stringIter ⟨#[117]⟩ 1))) := Lib.hid ⟨(put_far _ _ _ _ (by omega)).trans HR.out.1, (put_far _ _ _ _ (by omega)).trans HR.out.2.1, put_same _ _ _ _ HR.out.2.2.1, HR.out.2.2.2.grown (put_grown _ _ _) HR.out.2.2.2.size (fun g hg => by injection hg with hg; omega)⟩
    go_wp2_with fail
    clear q HR
    generalize (V0.putObj gI (.stringIter ⟨#[117]⟩ 1)) = V0a at HR1 ⊢
    refine (value_u V0a b (o + (k + 1)) _ _ y1 (n1.out _ HR1.out.2.2.2) (by omega) b1).mono ?_
    rintro e V0b ⟨rfl, rfl⟩
    have HR := HR1
    clear HR1
    have z1 : V0b.cell? ⟨w.heap.size + 1, 1, none⟩ = some (.int .i64 0) := HR.out.2.1.cell 1
    have f1 : V0b.frozen? ⟨w.heap.size + 1, 1, none⟩ = false := HR.out.2.1.frz 1
    have HR2 : Hid (Bx (V0b.setCell ⟨w.heap.size + 1, 1, none⟩ (.int .i64 (y1 : Nat))) w.heap.size #[.int .i64 0, .int .i64 0, .int .i64 0, .int .i64 0] 25 ∧ Bx (V0b.setCell ⟨w.heap.size + 1, 1, none⟩ (.int .i64 (y1 : Nat))) (w.heap.size + 1) #[.int .i64 x, .int .i64 (y1 : Nat), .int .i64 0, .int .i64 sz] 25 ∧ (V0b.setCell ⟨w.heap.size + 1, 1, none⟩ (.int .i64 (y1 : Nat))).heap[gI]? = some (.stringIter ⟨#[117]⟩ 1) ∧ Below w.heap.size w (V0b.setCell ⟨w.heap.size + 1, 1, none⟩ (.int .i64 (y1 : Nat)))) := Lib.hid ⟨HR.out.1.far (by omega) 1 _, HR.out.2.1.set 1 _, (Below.heap_setCell _ _ _ _ (by show gI ≠ w.heap.size + 1; omega)).trans HR.out.2.2.1, HR.out.2.2.2.setCell (p := ⟨w.heap.size + 1, 1, none⟩) (by simp) _⟩
    go_wp2_with fail
    clear z1 f1 HR
    generalize (V0b.setCell ⟨w.heap.size + 1, 1, none⟩ (.int .i64 (y1 : Nat))) = V0c at HR2 ⊢
    refine (sizeOne_c _ _).mono ?_
    rintro e V0d ⟨rfl, rfl⟩
    have HR := HR2
    clear HR2
    have q := fun ty => next_n V0d gI ⟨#[117]⟩ 1 HR.out.2.2.1 (by decide) ty
    go_wp2_with fail
    all_goals
      rw [rounds_succ]
      have u0 : V0d.cell? ⟨w.heap.size, 0, none⟩ = some (.int .i64 0) := HR.out.1.cell 0
      have t0 : V0d.frozen? ⟨w.heap.size, 0, none⟩ = false := HR.out.1.frz 0
      have u1 : V0d.cell? ⟨w.heap.size, 1, none⟩ = some (.int .i64 0) := HR.out.1.cell 1
      have t1 : V0d.frozen? ⟨w.heap.size, 1, none⟩ = false := HR.out.1.frz 1
      have u2 : V0d.cell? ⟨w.heap.size, 2, none⟩ = some (.int .i64 0) := HR.out.1.cell 2
      have t2 : V0d.frozen? ⟨w.heap.size, 2, none⟩ = false := HR.out.1.frz 2
      have u3 : V0d.cell? ⟨w.heap.size, 3, none⟩ = some (.int .i64 0) := HR.out.1.cell 3
      have t3 : V0d.frozen? ⟨w.heap.size, 3, none⟩ = false := HR.out.1.frz 3
      have m0 : V0d.cell? ⟨w.heap.size + 1, 0, none⟩ = some (.int .i64 x) := HR.out.2.1.cell 0
      have m1 : V0d.cell? ⟨w.heap.size + 1, 1, none⟩ = some (.int .i64 (y1 : Nat)) := HR.out.2.1.cell 1
      have m2 : V0d.cell? ⟨w.heap.size + 1, 2, none⟩ = some (.int .i64 0) := HR.out.2.1.cell 2
      have m3 : V0d.cell? ⟨w.heap.size + 1, 3, none⟩ = some (.int .i64 sz) := HR.out.2.1.cell 3
      go_wp2_with fail
      clear u0 u1 u2 u3 t0 t1 t2 t3 m0 m1 m2 m3
      have HS : Hid (Bx V0d w.heap.size #[.int .i64 0, .int .i64 0, .int .i64 0, .int .i64 0] 25 ∧ Below w.heap.size w V0d) := Lib.hid ⟨HR.out.1, HR.out.2.2.2⟩
      replace HS : Hid (Bx ((V0d).setCell ⟨w.heap.size, 0, none⟩ (.int .i64 x)) w.heap.size #[.int .i64 x, .int .i64 0, .int .i64 0, .int .i64 0] 25 ∧ Below w.heap.size w ((V0d).setCell ⟨w.heap.size, 0, none⟩ (.int .i64 x))) := Lib.hid ⟨HS.out.1.set 0 (.int .i64 x), HS.out.2.setCell (p := ⟨w.heap.size, 0, none⟩) (Nat.le_refl _) _⟩
      generalize V0d.setCell ⟨w.heap.size, 0, none⟩ (.int .i64 x) = zz1 at HS ⊢
      replace HS : Hid (Bx ((zz1).setCell ⟨w.heap.size, 1, none⟩ (.int .i64 (y1 : Nat))) w.heap.size #[.int .i64 x, .int .i64 (y1 : Nat), .int .i64 0, .int .i64 0] 25 ∧ Below w.heap.size w ((zz1).setCell ⟨w.heap.size, 1, none⟩ (.int .i64 (y1 : Nat)))) := Lib.hid ⟨HS.out.1.set 1 (.int .i64 (y1 : Nat)), HS.out.2.setCell (p := ⟨w.heap.size, 1, none⟩) (Nat.le_refl _) _⟩
      generalize zz1.setCell ⟨w.heap.size, 1, none⟩ (.int .i64 (y1 : Nat)) = zz2 at HS ⊢
      replace HS : Hid (Bx ((zz2).setCell ⟨w.heap.size, 2, none⟩ (.int .i64 0)) w.heap.size #[.int .i64 x, .int .i64 (y1 : Nat), .int .i64 0, .int .i64 0] 25 ∧ Below w.heap.size w ((zz2).setCell ⟨w.heap.size, 2, none⟩ (.int .i64 0))) := Lib.hid ⟨HS.out.1.set 2 (.int .i64 0), HS.out.2.setCell (p := ⟨w.heap.size, 2, none⟩) (Nat.le_refl _) _⟩
      generalize zz2.setCell ⟨w.heap.size, 2, none⟩ (.int .i64 0) = zz3 at HS ⊢
      replace HS : Hid (Bx ((zz3).setCell ⟨w.heap.size, 3, none⟩ (.int .i64 sz)) w.heap.size #[.int .i64 x, .int .i64 (y1 : Nat), .int .i64 0, .int .i64 sz] 25 ∧ Below w.heap.size w ((zz3).setCell ⟨w.heap.size, 3, none⟩ (.int .i64 sz))) := Lib.hid ⟨HS.out.1.set 3 (.int .i64 sz), HS.out.2.setCell (p := ⟨w.heap.size, 3, none⟩) (Nat.le_refl _) _⟩
      generalize zz3.setCell ⟨w.heap.size, 3, none⟩ (.int .i64 sz) = zz4 at HS ⊢
      have x0 : zz4.cell? ⟨w.heap.size, 0, none⟩ = some (.int .i64 x) := HS.out.1.cell 0
      have x1 : zz4.cell? ⟨w.heap.size, 1, none⟩ = some (.int .i64 (y1 : Nat)) := HS.out.1.cell 1
      have x2 : zz4.cell? ⟨w.heap.size, 2, none⟩ = some (.int .i64 0) := HS.out.1.cell 2
      have x3 : zz4.cell? ⟨w.heap.size, 3, none⟩ = some (.int .i64 sz) := HS.out.1.cell 3
      exact bodyPost_ret (v := .tuple #[.agg (ret4 x (y1 : Nat) 0 sz), .int .i64 0]) (by simp [results, Tryd.results9, go_sem, x0, x1, x2, x3, ret4]) rfl ⟨by rw [HY1.out], HS.out.2⟩
  · have hs2 : 2 ≤ sz ∧ sz ≤ 2 := by have := HSz.out; rw [show szK 2 = 2 from rfl] at this; omega
    have hO : Hid (∀ V, Calls Tryd.prog 27 #[.int .i64 x] V fun e w' => e = .returned (.string ⟨#[115]⟩) ∧ w' = V) := HOp
    obtain rfl : (IntKind.i8.wrap (D (k + 1) : Nat)) = OA := HA.out.symm
    obtain rfl : 0 = OB := HB.out.symm
    have b1 := HD.out (k + 1) (by omega)
    have n1 : Hid (∀ V, Below w.heap.size w V → V.cell? ⟨b, o + (k + 1), none⟩ = some (.int .u8 (D (k + 1) : Nat))) := Lib.hid fun V hV => (hV.cell (p := ⟨b, o + (k + 1), none⟩) hb).trans (HC.out (k + 1) (by omega))
    obtain ⟨gI, hgI⟩ : ∃ q, q = W2.heap.size := ⟨_, rfl⟩
    have HT := Lib.hid (HIt.out ⟨#[115]⟩)
    rw [← hgI] at HT hg
    have HGI := Lib.hid hgI
    clear hgI
    have ck : c ≠ k + 1 := by omega
    obtain ⟨y1, hy1⟩ : ∃ y, D (k + 1) = y := ⟨_, rfl⟩
    rw [hy1] at b1 n1
    have HY1 := Lib.hid hy1
    clear hy1
    obtain ⟨v3, hv3⟩ : ∃ v, IntKind.i8.wrap (y1 : Nat) = v := ⟨_, rfl⟩
    have HV3 : Hid (∀ V, V.cell? ⟨b, o + (k + 1), none⟩ = some (.int .u8 y1) → ∀ n c : Nat, 1 ≤ n → Calls Tryd.prog 28 #[.slice (some ⟨b, o + (k + 1), none⟩) n c, .int .i32 115] V fun e w' => e = .returned (.int .i64 v3) ∧ w' = V) := Lib.hid fun V h1 n c hn => hv3 ▸ value_s V b _ n c y1 h1 hn b1
    have HY3 := Lib.hid hv3
    clear hv3
    go_wp2_with fail
    all_goals (try (exfalso; omega))
    refine (hO.out _).mono ?_
    rintro e W2 ⟨rfl, rfl⟩
    go_wp2_with fail
    rw [← HGI.out]
    obtain ⟨V0, hV0⟩ : ∃ V, V = W2.iter ⟨#[115]⟩ 0 := ⟨_, rfl⟩
    rw [← hV0] at HT ⊢
    clear hV0
    have HR := HT
    clear HT
    refine wp_loop_rounds 2 ?_
    rw [rounds_succ]
    have q := fun ty => next_y V0 gI ⟨#[115]⟩ 0 1 115 rfl HR.out.2.2.1 (by decide) (by decide) rfl ty
    have HR1 : Hid (Bx (V0.putObj gI (.stringIter ⟨#[115]⟩ 1)) w.heap.size #[.int .i64 0, .int .i64 0, .int .i64 0, .int .i64 0] 25 ∧ Bx (V0.putObj gI (.stringIter ⟨#[115]⟩ 1)) (w.heap.size + 1) #[.int .i64 x, .int .i64 0, .int .i64 0, .int .i64 sz] 25 ∧ (V0.putObj gI (.stringIter ⟨#[115]⟩ 1)).heap[gI]? = some (.stringIter ⟨#[115]⟩ 1) ∧ Below w.heap.size w (V0.putObj gI (.stringIter ⟨#[115]⟩ 1))) := Lib.hid ⟨(put_far _ _ _ _ (by omega)).trans HR.out.1, (put_far _ _ _ _ (by omega)).trans HR.out.2.1, put_same _ _ _ _ HR.out.2.2.1, HR.out.2.2.2.grown (put_grown _ _ _) HR.out.2.2.2.size (fun g hg => by injection hg with hg; omega)⟩
    go_wp2_with fail
    clear q HR
    generalize (V0.putObj gI (.stringIter ⟨#[115]⟩ 1)) = V0a at HR1 ⊢
    refine (HV3.out V0a (n1.out _ HR1.out.2.2.2) _ _ (by omega)).mono ?_
    rintro e V0b ⟨rfl, rfl⟩
    have HR := HR1
    clear HR1
    have z1 : V0b.cell? ⟨w.heap.size + 1, 1, none⟩ = some (.int .i64 0) := HR.out.2.1.cell 1
    have f1 : V0b.frozen? ⟨w.heap.size + 1, 1, none⟩ = false := HR.out.2.1.frz 1
    have HR2 : Hid (Bx (V0b.setCell ⟨w.heap.size + 1, 1, none⟩ (.int .i64 v3)) w.heap.size #[.int .i64 0, .int .i64 0, .int .i64 0, .int .i64 0] 25 ∧ Bx (V0b.setCell ⟨w.heap.size + 1, 1, none⟩ (.int .i64 v3)) (w.heap.size + 1) #[.int .i64 x, .int .i64 v3, .int .i64 0, .int .i64 sz] 25 ∧ (V0b.setCell ⟨w.heap.size + 1, 1, none⟩ (.int .i64 v3)).heap[gI]? = some (.stringIter ⟨#[115]⟩ 1) ∧ Below w.heap.size w (V0b.setCell ⟨w.heap.size + 1, 1, none⟩ (.int .i64 v3))) := Lib.hid ⟨HR.out.1.far (by omega) 1 _, HR.out.2.1.set 1 _, (Below.heap_setCell _ _ _ _ (by show gI ≠ w.heap.size + 1; omega)).trans HR.out.2.2.1, HR.out.2.2.2.setCell (p := ⟨w.heap.size + 1, 1, none⟩) (by simp) _⟩
    go_wp2_with fail
    clear z1 f1 HR
    generalize (V0b.setCell ⟨w.heap.size + 1, 1, none⟩ (.int .i64 v3)) = V0c at HR2 ⊢
    refine (sizeOne_c _ _).mono ?_
    rintro e V0d ⟨rfl, rfl⟩
    have HR := HR2
    clear HR2
    have q := fun ty => next_n V0d gI ⟨#[115]⟩ 1 HR.out.2.2.1 (by decide) ty
    go_wp2_with fail
    all_goals
      rw [rounds_succ]
      have u0 : V0d.cell? ⟨w.heap.size, 0, none⟩ = some (.int .i64 0) := HR.out.1.cell 0
      have t0 : V0d.frozen? ⟨w.heap.size, 0, none⟩ = false := HR.out.1.frz 0
      have u1 : V0d.cell? ⟨w.heap.size, 1, none⟩ = some (.int .i64 0) := HR.out.1.cell 1
      have t1 : V0d.frozen? ⟨w.heap.size, 1, none⟩ = false := HR.out.1.frz 1
      have u2 : V0d.cell? ⟨w.heap.size, 2, none⟩ = some (.int .i64 0) := HR.out.1.cell 2
      have t2 : V0d.frozen? ⟨w.heap.size, 2, none⟩ = false := HR.out.1.frz 2
      have u3 : V0d.cell? ⟨w.heap.size, 3, none⟩ = some (.int .i64 0) := HR.out.1.cell 3
      have t3 : V0d.frozen? ⟨w.heap.size, 3, none⟩ = false := HR.out.1.frz 3
      have m0 : V0d.cell? ⟨w.heap.size + 1, 0, none⟩ = some (.int .i64 x) := HR.out.2.1.cell 0
      have m1 : V0d.cell? ⟨w.heap.size + 1, 1, none⟩ = some (.int .i64 v3) := HR.out.2.1.cell 1
      have m2 : V0d.cell? ⟨w.heap.size + 1, 2, none⟩ = some (.int .i64 0) := HR.out.2.1.cell 2
      have m3 : V0d.cell? ⟨w.heap.size + 1, 3, none⟩ = some (.int .i64 sz) := HR.out.2.1.cell 3
      go_wp2_with fail
      clear u0 u1 u2 u3 t0 t1 t2 t3 m0 m1 m2 m3
      have HS : Hid (Bx V0d w.heap.size #[.int .i64 0, .int .i64 0, .int .i64 0, .int .i64 0] 25 ∧ Below w.heap.size w V0d) := Lib.hid ⟨HR.out.1, HR.out.2.2.2⟩
      replace HS : Hid (Bx ((V0d).setCell ⟨w.heap.size, 0, none⟩ (.int .i64 x)) w.heap.size #[.int .i64 x, .int .i64 0, .int .i64 0, .int .i64 0] 25 ∧ Below w.heap.size w ((V0d).setCell ⟨w.heap.size, 0, none⟩ (.int .i64 x))) := Lib.hid ⟨HS.out.1.set 0 (.int .i64 x), HS.out.2.setCell (p := ⟨w.heap.size, 0, none⟩) (Nat.le_refl _) _⟩
      generalize V0d.setCell ⟨w.heap.size, 0, none⟩ (.int .i64 x) = zz1 at HS ⊢
      replace HS : Hid (Bx ((zz1).setCell ⟨w.heap.size, 1, none⟩ (.int .i64 v3)) w.heap.size #[.int .i64 x, .int .i64 v3, .int .i64 0, .int .i64 0] 25 ∧ Below w.heap.size w ((zz1).setCell ⟨w.heap.size, 1, none⟩ (.int .i64 v3))) := Lib.hid ⟨HS.out.1.set 1 (.int .i64 v3), HS.out.2.setCell (p := ⟨w.heap.size, 1, none⟩) (Nat.le_refl _) _⟩
      generalize zz1.setCell ⟨w.heap.size, 1, none⟩ (.int .i64 v3) = zz2 at HS ⊢
      replace HS : Hid (Bx ((zz2).setCell ⟨w.heap.size, 2, none⟩ (.int .i64 0)) w.heap.size #[.int .i64 x, .int .i64 v3, .int .i64 0, .int .i64 0] 25 ∧ Below w.heap.size w ((zz2).setCell ⟨w.heap.size, 2, none⟩ (.int .i64 0))) := Lib.hid ⟨HS.out.1.set 2 (.int .i64 0), HS.out.2.setCell (p := ⟨w.heap.size, 2, none⟩) (Nat.le_refl _) _⟩
      generalize zz2.setCell ⟨w.heap.size, 2, none⟩ (.int .i64 0) = zz3 at HS ⊢
      replace HS : Hid (Bx ((zz3).setCell ⟨w.heap.size, 3, none⟩ (.int .i64 sz)) w.heap.size #[.int .i64 x, .int .i64 v3, .int .i64 0, .int .i64 sz] 25 ∧ Below w.heap.size w ((zz3).setCell ⟨w.heap.size, 3, none⟩ (.int .i64 sz))) := Lib.hid ⟨HS.out.1.set 3 (.int .i64 sz), HS.out.2.setCell (p := ⟨w.heap.size, 3, none⟩) (Nat.le_refl _) _⟩
      generalize zz3.setCell ⟨w.heap.size, 3, none⟩ (.int .i64 sz) = zz4 at HS ⊢
      have x0 : zz4.cell? ⟨w.heap.size, 0, none⟩ = some (.int .i64 x) := HS.out.1.cell 0
      have x1 : zz4.cell? ⟨w.heap.size, 1, none⟩ = some (.int .i64 v3) := HS.out.1.cell 1
      have x2 : zz4.cell? ⟨w.heap.size, 2, none⟩ = some (.int .i64 0) := HS.out.1.cell 2
      have x3 : zz4.cell? ⟨w.heap.size, 3, none⟩ = some (.int .i64 sz) := HS.out.1.cell 3
      exact bodyPost_ret (v := .tuple #[.agg (ret4 x v3 0 sz), .int .i64 0]) (by simp [results, Tryd.results9, go_sem, x0, x1, x2, x3, ret4]) rfl ⟨by rw [HY1.out, HY3.out], HS.out.2⟩
  · have hs2 : 3 ≤ sz ∧ sz ≤ 3 := by have := HSz.out; rw [show szK 3 = 3 from rfl] at this; omega
    have hO : Hid (∀ V, Calls Tryd.prog 27 #[.int .i64 x] V fun e w' => e = .returned (.string ⟨#[111]⟩) ∧ w' = V) := HOp
    obtain rfl : (IntKind.i16.wrap (D (k + 1) + 256 * D (k + 2) : Nat)) = OA := HA.out.symm
    obtain rfl : 0 = OB := HB.out.symm
    have b1 := HD.out (k + 1) (by omega)
    have n1 : Hid (∀ V, Below w.heap.size w V → V.cell? ⟨b, o + (k + 1), none⟩ = some (.int .u8 (D (k + 1) : Nat))) := Lib.hid fun V hV => (hV.cell (p := ⟨b, o + (k + 1), none⟩) hb).trans (HC.out (k + 1) (by omega))
    have b2 := HD.out (k + 2) (by omega)
    have n2 : Hid (∀ V, Below w.heap.size w V → V.cell? ⟨b, o + (k + 1) + 1, none⟩ = some (.int .u8 (D (k + 2) : Nat))) := Lib.hid fun V hV => (show V.cell? ⟨b, o + (k + 2), none⟩ = _ from (hV.cell (p := ⟨b, o + (k + 2), none⟩) hb).trans (HC.out (k + 2) (by omega)))
    obtain ⟨gI, hgI⟩ : ∃ q, q = W2.heap.size := ⟨_, rfl⟩
    have HT := Lib.hid (HIt.out ⟨#[111]⟩)
    rw [← hgI] at HT hg
    have HGI := Lib.hid hgI
    clear hgI
    have ck : c ≠ k + 1 := by omega
    obtain ⟨y1, hy1⟩ : ∃ y, D (k + 1) = y := ⟨_, rfl⟩
    rw [hy1] at b1 n1
    have HY1 := Lib.hid hy1
    clear hy1
    obtain ⟨y2, hy2⟩ : ∃ y, D (k + 2) = y := ⟨_, rfl⟩
    rw [hy2] at b2 n2
    have HY2 := Lib.hid hy2
    clear hy2
    obtain ⟨v3, hv3⟩ : ∃ v, IntKind.i16.wrap (y1 + 256 * y2 : Nat) = v := ⟨_, rfl⟩
    have HV3 : Hid (∀ V, V.cell? ⟨b, o + (k + 1), none⟩ = some (.int .u8 y1) → V.cell? ⟨b, o + (k + 1) + 1, none⟩ = some (.int .u8 y2) → ∀ n c : Nat, 2 ≤ n → Calls Tryd.prog 28 #[.slice (some ⟨b, o + (k + 1), none⟩) n c, .int .i32 111] V fun e w' => e = .returned (.int .i64 v3) ∧ Below V.heap.size V w') := Lib.hid fun V h1 h2 n c hn => hv3 ▸ value_o V b _ n c y1 y2 h1 h2 hn b1 b2
    have HY3 := Lib.hid hv3
    clear hv3
    go_wp2_with fail
    all_goals (try (exfalso; omega))
    refine (hO.out _).mono ?_
    rintro e W2 ⟨rfl, rfl⟩
    go_wp2_with fail
    rw [← HGI.out]
    obtain ⟨V0, hV0⟩ : ∃ V, V = W2.iter ⟨#[111]⟩ 0 := ⟨_, rfl⟩
    rw [← hV0] at HT ⊢
    clear hV0
    have HR := HT
    clear HT
    refine wp_loop_rounds 2 ?_
    rw [rounds_succ]
    have q := fun ty => next_y V0 gI ⟨#[111]⟩ 0 1 111 rfl HR.out.2.2.1 (by decide) (by decide) rfl ty
    have HR1 : Hid (Bx (V0.putObj gI (.stringIter ⟨#[111]⟩ 1)) w.heap.size #[.int .i64 0, .int .i64 0, .int .i64 0, .int .i64 0] 25 ∧ Bx (V0.putObj gI (.stringIter ⟨#[111]⟩ 1)) (w.heap.size + 1) #[.int .i64 x, .int .i64 0, .int .i64 0, .int .i64 sz] 25 ∧ (V0.putObj gI (.stringIter ⟨#[111]⟩ 1)).heap[gI]? = some (.stringIter ⟨#[111]⟩ 1) ∧ Below w.heap.size w (V0.putObj gI (.stringIter ⟨#[111]⟩ 1))) := Lib.hid ⟨(put_far _ _ _ _ (by omega)).trans HR.out.1, (put_far _ _ _ _ (by omega)).trans HR.out.2.1, put_same _ _ _ _ HR.out.2.2.1, HR.out.2.2.2.grown (put_grown _ _ _) HR.out.2.2.2.size (fun g hg => by injection hg with hg; omega)⟩
    go_wp2_with fail
    clear q HR
    generalize (V0.putObj gI (.stringIter ⟨#[111]⟩ 1)) = V0a at HR1 ⊢
    refine (HV3.out V0a (n1.out _ HR1.out.2.2.2) (n2.out _ HR1.out.2.2.2) _ _ (by omega)).mono ?_
    rintro e V0b ⟨rfl, hbb⟩
    have HR : Hid (Bx V0b w.heap.size #[.int .i64 0, .int .i64 0, .int .i64 0, .int .i64 0] 25 ∧ Bx V0b (w.heap.size + 1) #[.int .i64 x, .int .i64 0, .int .i64 0, .int .i64 sz] 25 ∧ V0b.heap[gI]? = some (.stringIter ⟨#[111]⟩ 1) ∧ Below w.heap.size w V0b) := Lib.hid ⟨HR1.out.1.below hbb, HR1.out.2.1.below hbb, (hbb.block gI (Array.getElem?_eq_some_iff.1 HR1.out.2.2.1).1).trans HR1.out.2.2.1, HR1.out.2.2.2.trans (hbb.mono HR1.out.2.2.2.size)⟩
    clear hbb HR1
    have z1 : V0b.cell? ⟨w.heap.size + 1, 1, none⟩ = some (.int .i64 0) := HR.out.2.1.cell 1
    have f1 : V0b.frozen? ⟨w.heap.size + 1, 1, none⟩ = false := HR.out.2.1.frz 1
    have HR2 : Hid (Bx (V0b.setCell ⟨w.heap.size + 1, 1, none⟩ (.int .i64 v3)) w.heap.size #[.int .i64 0, .int .i64 0, .int .i64 0, .int .i64 0] 25 ∧ Bx (V0b.setCell ⟨w.heap.size + 1, 1, none⟩ (.int .i64 v3)) (w.heap.size + 1) #[.int .i64 x, .int .i64 v3, .int .i64 0, .int .i64 sz] 25 ∧ (V0b.setCell ⟨w.heap.size + 1, 1, none⟩ (.int .i64 v3)).heap[gI]? = some (.stringIter ⟨#[111]⟩ 1) ∧ Below w.heap.size w (V0b.setCell ⟨w.heap.size + 1, 1, none⟩ (.int .i64 v3))) := Lib.hid ⟨HR.out.1.far (by omega) 1 _, HR.out.2.1.set 1 _, (Below.heap_setCell _ _ _ _ (by show gI ≠ w.heap.size + 1; omega)).trans HR.out.2.2.1, HR.out.2.2.2.setCell (p := ⟨w.heap.size + 1, 1, none⟩) (by simp) _⟩
    go_wp2_with fail
    clear z1 f1 HR
    generalize (V0b.setCell ⟨w.heap.size + 1, 1, none⟩ (.int .i64 v3)) = V0c at HR2 ⊢
    refine (sizeOne_c _ _).mono ?_
    rintro e V0d ⟨rfl, rfl⟩
    have HR := HR2
    clear HR2
    have q := fun ty => next_n V0d gI ⟨#[111]⟩ 1 HR.out.2.2.1 (by decide) ty
    go_wp2_with fail
    all_goals
      rw [rounds_succ]
      have u0 : V0d.cell? ⟨w.heap.size, 0, none⟩ = some (.int .i64 0) := HR.out.1.cell 0
      have t0 : V0d.frozen? ⟨w.heap.size, 0, none⟩ = false := HR.out.1.frz 0
      have u1 : V0d.cell? ⟨w.heap.size, 1, none⟩ = some (.int .i64 0) := HR.out.1.cell 1
      have t1 : V0d.frozen? ⟨w.heap.size, 1, none⟩ = false := HR.out.1.frz 1
      have u2 : V0d.cell? ⟨w.heap.size, 2, none⟩ = some (.int .i64 0) := HR.out.1.cell 2
      have t2 : V0d.frozen? ⟨w.heap.size, 2, none⟩ = false := HR.out.1.frz 2
      have u3 : V0d.cell? ⟨w.heap.size, 3, none⟩ = some (.int .i64 0) := HR.out.1.cell 3
      have t3 : V0d.frozen? ⟨w.heap.size, 3, none⟩ = false := HR.out.1.frz 3
      have m0 : V0d.cell? ⟨w.heap.size + 1, 0, none⟩ = some (.int .i64 x) := HR.out.2.1.cell 0
      have m1 : V0d.cell? ⟨w.heap.size + 1, 1, none⟩ = some (.int .i64 v3) := HR.out.2.1.cell 1
      have m2 : V0d.cell? ⟨w.heap.size + 1, 2, none⟩ = some (.int .i64 0) := HR.out.2.1.cell 2
      have m3 : V0d.cell? ⟨w.heap.size + 1, 3, none⟩ = some (.int .i64 sz) := HR.out.2.1.cell 3
      go_wp2_with fail
      clear u0 u1 u2 u3 t0 t1 t2 t3 m0 m1 m2 m3
      have HS : Hid (Bx V0d w.heap.size #[.int .i64 0, .int .i64 0, .int .i64 0, .int .i64 0] 25 ∧ Below w.heap.size w V0d) := Lib.hid ⟨HR.out.1, HR.out.2.2.2⟩
      replace HS : Hid (Bx ((V0d).setCell ⟨w.heap.size, 0, none⟩ (.int .i64 x)) w.heap.size #[.int .i64 x, .int .i64 0, .int .i64 0, .int .i64 0] 25 ∧ Below w.heap.size w ((V0d).setCell ⟨w.heap.size, 0, none⟩ (.int .i64 x))) := Lib.hid ⟨HS.out.1.set 0 (.int .i64 x), HS.out.2.setCell (p := ⟨w.heap.size, 0, none⟩) (Nat.le_refl _) _⟩
      generalize V0d.setCell ⟨w.heap.size, 0, none⟩ (.int .i64 x) = zz1 at HS ⊢
      replace HS : Hid (Bx ((zz1).setCell ⟨w.heap.size, 1, none⟩ (.int .i64 v3)) w.heap.size #[.int .i64 x, .int .i64 v3, .int .i64 0, .int .i64 0] 25 ∧ Below w.heap.size w ((zz1).setCell ⟨w.heap.size, 1, none⟩ (.int .i64 v3))) := Lib.hid ⟨HS.out.1.set 1 (.int .i64 v3), HS.out.2.setCell (p := ⟨w.heap.size, 1, none⟩) (Nat.le_refl _) _⟩
      generalize zz1.setCell ⟨w.heap.size, 1, none⟩ (.int .i64 v3) = zz2 at HS ⊢
      replace HS : Hid (Bx ((zz2).setCell ⟨w.heap.size, 2, none⟩ (.int .i64 0)) w.heap.size #[.int .i64 x, .int .i64 v3, .int .i64 0, .int .i64 0] 25 ∧ Below w.heap.size w ((zz2).setCell ⟨w.heap.size, 2, none⟩ (.int .i64 0))) := Lib.hid ⟨HS.out.1.set 2 (.int .i64 0), HS.out.2.setCell (p := ⟨w.heap.size, 2, none⟩) (Nat.le_refl _) _⟩
      generalize zz2.setCell ⟨w.heap.size, 2, none⟩ (.int .i64 0) = zz3 at HS ⊢
      replace HS : Hid (Bx ((zz3).setCell ⟨w.heap.size, 3, none⟩ (.int .i64 sz)) w.heap.size #[.int .i64 x, .int .i64 v3, .int .i64 0, .int .i64 sz] 25 ∧ Below w.heap.size w ((zz3).setCell ⟨w.heap.size, 3, none⟩ (.int .i64 sz))) := Lib.hid ⟨HS.out.1.set 3 (.int .i64 sz), HS.out.2.setCell (p := ⟨w.heap.size, 3, none⟩) (Nat.le_refl _) _⟩
      generalize zz3.setCell ⟨w.heap.size, 3, none⟩ (.int .i64 sz) = zz4 at HS ⊢
      have x0 : zz4.cell? ⟨w.heap.size, 0, none⟩ = some (.int .i64 x) := HS.out.1.cell 0
      have x1 : zz4.cell? ⟨w.heap.size, 1, none⟩ = some (.int .i64 v3) := HS.out.1.cell 1
      have x2 : zz4.cell? ⟨w.heap.size, 2, none⟩ = some (.int .i64 0) := HS.out.1.cell 2
      have x3 : zz4.cell? ⟨w.heap.size, 3, none⟩ = some (.int .i64 sz) := HS.out.1.cell 3
      exact bodyPost_ret (v := .tuple #[.agg (ret4 x v3 0 sz), .int .i64 0]) (by simp [results, Tryd.results9, go_sem, x0, x1, x2, x3, ret4]) rfl ⟨by rw [HY1.out, HY2.out, HY3.out], HS.out.2⟩
  · have hs2 : 3 ≤ sz ∧ sz ≤ 3 := by have := HSz.out; rw [show szK 4 = 3 from rfl] at this; omega
    have hO : Hid (∀ V, Calls Tryd.prog 27 #[.int .i64 x] V fun e w' => e = .returned (.string ⟨#[117, 117]⟩) ∧ w' = V) := HOp
    obtain rfl : ((D (k + 1) : Nat) : Int) = OA := HA.out.symm
    obtain rfl : ((D (k + 2) : Nat) : Int) = OB := HB.out.symm
    have b1 := HD.out (k + 1) (by omega)
    have n1 : Hid (∀ V, Below w.heap.size w V → V.cell? ⟨b, o + (k + 1), none⟩ = some (.int .u8 (D (k + 1) : Nat))) := Lib.hid fun V hV => (hV.cell (p := ⟨b, o + (k + 1), none⟩) hb).trans (HC.out (k + 1) (by omega))
    have b2 := HD.out (k + 2) (by omega)
    have n2 : Hid (∀ V, Below w.heap.size w V → V.cell? ⟨b, o + (k + 1) + 1, none⟩ = some (.int .u8 (D (k + 2) : Nat))) := Lib.hid fun V hV => (show V.cell? ⟨b, o + (k + 2), none⟩ = _ from (hV.cell (p := ⟨b, o + (k + 2), none⟩) hb).trans (HC.out (k + 2) (by omega)))
    obtain ⟨gI, hgI⟩ : ∃ q, q = W2.heap.size := ⟨_, rfl⟩
    have HT := Lib.hid (HIt.out ⟨#[117, 117]⟩)
    rw [← hgI] at HT hg
    have HGI := Lib.hid hgI
    clear hgI
    have ck : c ≠ k + 1 := by omega
    obtain ⟨y1, hy1⟩ : ∃ y, D (k + 1) = y := ⟨_, rfl⟩
    rw [hy1] at b1 n1
    have HY1 := Lib.hid hy1
    clear hy1
    obtain ⟨y2, hy2⟩ : ∃ y, D (k + 2) = y := ⟨_, rfl⟩
    rw [hy2] at b2 n2
    have HY2 := Lib.hid hy2
    clear hy2
    go_wp2_with fail
    all_goals (try (exfalso; omega))
    refine (hO.out _).mono ?_
    rintro e W2 ⟨rfl, rfl⟩
    go_wp2_with fail
    rw [← HGI.out]
    obtain ⟨V0, hV0⟩ : ∃ V, V = W2.iter ⟨#[117, 117]⟩ 0 := ⟨_, rfl⟩
    rw [← hV0] at HT ⊢
    clear hV0
    have HR := HT
    clear HT
    refine wp_loop_rounds 3 ?_
    rw [rounds_succ]
    have q := fun ty => next_y V0 gI ⟨#[117, 117]⟩ 0 1 117 rfl HR.out.2.2.1 (by decide) (by decide) rfl ty
    have HR1 : Hid (Bx (V0.putObj gI (.stringIter ⟨#[117, 117]⟩ 1)) w.heap.size #[.int .i64 0, .int .i64 0, .int .i64 0, .int .i64 0] 25 ∧ Bx (V0.putObj gI (.stringIter ⟨#[117, 117]⟩ 1)) (w.heap.size + 1) #[.int .i64 x, .int .i64 0, .int .i64 0, .int .i64 sz] 25 ∧ (V0.putObj gI (.stringIter ⟨#[117, 117]⟩ 1)).heap[gI]? = some (.stringIter ⟨#[117, 117]⟩ 1) ∧ Below w.heap.size w (V0.putObj gI (.stringIter ⟨#[117, 117]⟩ 1))) := Lib.hid ⟨(put_far _ _ _ _ (by omega)).trans HR.out.1, (put_far _ _ _ _ (by omega)).trans HR.out.2.1, put_same _ _ _ _ HR.out.2.2.1, HR.out.2.2.2.grown (put_grown _ _ _) HR.out.2.2.2.size (fun g hg => by injection hg with hg; omega)⟩
    go_wp2_with fail
    clear q HR
    generalize (V0.putObj gI (.stringIter ⟨#[117, 117]⟩ 1)) = V0a at HR1 ⊢
    refine (value_u V0a b (o + (k + 1)) _ _ y1 (n1.out _ HR1.out.2.2.2) (by omega) b1).mono ?_
    rintro e V0b ⟨rfl, rfl⟩
    have HR := HR1
    clear HR1
    have z1 : V0b.cell? ⟨w.heap.size + 1, 1, none⟩ = some (.int .i64 0) := HR.out.2.1.cell 1
    have f1 : V0b.frozen? ⟨w.heap.size + 1, 1, none⟩ = false := HR.out.2.1.frz 1
    have HR2 : Hid (Bx (V0b.setCell ⟨w.heap.size + 1, 1, none⟩ (.int .i64 (y1 : Nat))) w.heap.size #[.int .i64 0, .int .i64 0, .int .i64 0, .int .i64 0] 25 ∧ Bx (V0b.setCell ⟨w.heap.size + 1, 1, none⟩ (.int .i64 (y1 : Nat))) (w.heap.size + 1) #[.int .i64 x, .int .i64 (y1 : Nat), .int .i64 0, .int .i64 sz] 25 ∧ (V0b.setCell ⟨w.heap.size + 1, 1, none⟩ (.int .i64 (y1 : Nat))).heap[gI]? = some (.stringIter ⟨#[117, 117]⟩ 1) ∧ Below w.heap.size w (V0b.setCell ⟨w.heap.size + 1, 1, none⟩ (.int .i64 (y1 : Nat)))) := Lib.hid ⟨HR.out.1.far (by omega) 1 _, HR.out.2.1.set 1 _, (Below.heap_setCell _ _ _ _ (by show gI ≠ w.heap.size + 1; omega)).trans HR.out.2.2.1, HR.out.2.2.2.setCell (p := ⟨w.heap.size + 1, 1, none⟩) (by simp) _⟩
    go_wp2_with fail
    clear z1 f1 HR
    generalize (V0b.setCell ⟨w.heap.size + 1, 1, none⟩ (.int .i64 (y1 : Nat))) = V0c at HR2 ⊢
    refine (sizeOne_c _ _).mono ?_
    rintro e V0d ⟨rfl, rfl⟩
    have HR := HR2
    clear HR2
    go_wp2_with fail
    all_goals (try (exfalso; omega))
    rw [rounds_succ]
    have q := fun ty => next_y V0d gI ⟨#[117, 117]⟩ 1 2 117 rfl HR.out.2.2.1 (by decide) (by decide) rfl ty
    have HR1 : Hid (Bx (V0d.putObj gI (.stringIter ⟨#[117, 117]⟩ 2)) w.heap.size #[.int .i64 0, .int .i64 0, .int .i64 0, .int .i64 0] 25 ∧ Bx (V0d.putObj gI (.stringIter ⟨#[117, 117]⟩ 2)) (w.heap.size + 1) #[.int .i64 x, .int .i64 (y1 : Nat), .int .i64 0, .int .i64 sz] 25 ∧ (V0d.putObj gI (.stringIter ⟨#[117, 117]⟩ 2)).heap[gI]? = some (.stringIter ⟨#[117, 117]⟩ 2) ∧ Below w.heap.size w (V0d.putObj gI (.stringIter ⟨#[117, 117]⟩ 2))) := Lib.hid ⟨(put_far _ _ _ _ (by omega)).trans HR.out.1, (put_far _ _ _ _ (by omega)).trans HR.out.2.1, put_same _ _ _ _ HR.out.2.2.1, HR.out.2.2.2.grown (put_grown _ _ _) HR.out.2.2.2.size (fun g hg => by injection hg with hg; omega)⟩
    go_wp2_with fail
    clear q HR
    generalize (V0d.putObj gI (.stringIter ⟨#[117, 117]⟩ 2)) = V1a at HR1 ⊢
    have n2b := n2.out _ HR1.out.2.2.2
    refine (value_u V1a b (o + (k + 1) + 1) _ _ y2 n2b (by omega) b2).mono ?_
    rintro e V1b ⟨rfl, rfl⟩
    have HR := HR1
    clear HR1
    have z1 : V1b.cell? ⟨w.heap.size + 1, 2, none⟩ = some (.int .i64 0) := HR.out.2.1.cell 2
    have f1 : V1b.frozen? ⟨w.heap.size + 1, 2, none⟩ = false := HR.out.2.1.frz 2
    have HR2 : Hid (Bx (V1b.setCell ⟨w.heap.size + 1, 2, none⟩ (.int .i64 (y2 : Nat))) w.heap.size #[.int .i64 0, .int .i64 0, .int .i64 0, .int .i64 0] 25 ∧ Bx (V1b.setCell ⟨w.heap.size + 1, 2, none⟩ (.int .i64 (y2 : Nat))) (w.heap.size + 1) #[.int .i64 x, .int .i64 (y1 : Nat), .int .i64 (y2 : Nat), .int .i64 sz] 25 ∧ (V1b.setCell ⟨w.heap.size + 1, 2, none⟩ (.int .i64 (y2 : Nat))).heap[gI]? = some (.stringIter ⟨#[117, 117]⟩ 2) ∧ Below w.heap.size w (V1b.setCell ⟨w.heap.size + 1, 2, none⟩ (.int .i64 (y2 : Nat)))) := Lib.hid ⟨HR.out.1.far (by omega) 2 _, HR.out.2.1.set 2 _, (Below.heap_setCell _ _ _ _ (by show gI ≠ w.heap.size + 1; omega)).trans HR.out.2.2.1, HR.out.2.2.2.setCell (p := ⟨w.heap.size + 1, 2, none⟩) (by simp) _⟩
    go_wp2_with fail
    clear z1 f1 HR
    generalize (V1b.setCell ⟨w.heap.size + 1, 2, none⟩ (.int .i64 (y2 : Nat))) = V1c at HR2 ⊢
    refine (sizeOne_c _ _).mono ?_
    rintro e V1d ⟨rfl, rfl⟩
    have HR := HR2
    clear HR2
    have q := fun ty => next_n V1d gI ⟨#[117, 117]⟩ 2 HR.out.2.2.1 (by decide) ty
    go_wp2_with fail
    all_goals
      rw [rounds_succ]
      have u0 : V1d.cell? ⟨w.heap.size, 0, none⟩ = some (.int .i64 0) := HR.out.1.cell 0
      have t0 : V1d.frozen? ⟨w.heap.size, 0, none⟩ = false := HR.out.1.frz 0
      have u1 : V1d.cell? ⟨w.heap.size, 1, none⟩ = some (.int .i64 0) := HR.out.1.cell 1
      have t1 : V1d.frozen? ⟨w.heap.size, 1, none⟩ = false := HR.out.1.frz 1
      have u2 : V1d.cell? ⟨w.heap.size, 2, none⟩ = some (.int .i64 0) := HR.out.1.cell 2
      have t2 : V1d.frozen? ⟨w.heap.size, 2, none⟩ = false := HR.out.1.frz 2
      have u3 : V1d.cell? ⟨w.heap.size, 3, none⟩ = some (.int .i64 0) := HR.out.1.cell 3
      have t3 : V1d.frozen? ⟨w.heap.size, 3, none⟩ = false := HR.out.1.frz 3
      have m0 : V1d.cell? ⟨w.heap.size + 1, 0, none⟩ = some (.int .i64 x) := HR.out.2.1.cell 0
      have m1 : V1d.cell? ⟨w.heap.size + 1, 1, none⟩ = some (.int .i64 (y1 : Nat)) := HR.out.2.1.cell 1
      have m2 : V1d.cell? ⟨w.heap.size + 1, 2, none⟩ = some (.int .i64 (y2 : Nat)) := HR.out.2.1.cell 2
      have m3 : V1d.cell? ⟨w.heap.size + 1, 3, none⟩ = some (.int .i64 sz) := HR.out.2.1.cell 3
      go_wp2_with fail
      clear u0 u1 u2 u3 t0 t1 t2 t3 m0 m1 m2 m3
      have HS : Hid (Bx V1d w.heap.size #[.int .i64 0, .int .i64 0, .int .i64 0, .int .i64 0] 25 ∧ Below w.heap.size w V1d) := Lib.hid ⟨HR.out.1, HR.out.2.2.2⟩
      replace HS : Hid (Bx ((V1d).setCell ⟨w.heap.size, 0, none⟩ (.int .i64 x)) w.heap.size #[.int .i64 x, .int .i64 0, .int .i64 0, .int .i64 0] 25 ∧ Below w.heap.size w ((V1d).setCell ⟨w.heap.size, 0, none⟩ (.int .i64 x))) := Lib.hid ⟨HS.out.1.set 0 (.int .i64 x), HS.out.2.setCell (p := ⟨w.heap.size, 0, none⟩) (Nat.le_refl _) _⟩
      generalize V1d.setCell ⟨w.heap.size, 0, none⟩ (.int .i64 x) = zz1 at HS ⊢
      replace HS : Hid (Bx ((zz1).setCell ⟨w.heap.size, 1, none⟩ (.int .i64 (y1 : Nat))) w.heap.size #[.int .i64 x, .int .i64 (y1 : Nat), .int .i64 0, .int .i64 0] 25 ∧ Below w.heap.size w ((zz1).setCell ⟨w.heap.size, 1, none⟩ (.int .i64 (y1 : Nat)))) := Lib.hid ⟨HS.out.1.set 1 (.int .i64 (y1 : Nat)), HS.out.2.setCell (p := ⟨w.heap.size, 1, none⟩) (Nat.le_refl _) _⟩
      generalize zz1.setCell ⟨w.heap.size, 1, none⟩ (.int .i64 (y1 : Nat)) = zz2 at HS ⊢
      replace HS : Hid (Bx ((zz2).setCell ⟨w.heap.size, 2, none⟩ (.int .i64 (y2 : Nat))) w.heap.size #[.int .i64 x, .int .i64 (y1 : Nat), .int .i64 (y2 : Nat), .int .i64 0] 25 ∧ Below w.heap.size w ((zz2).setCell ⟨w.heap.size, 2, none⟩ (.int .i64 (y2 : Nat)))) := Lib.hid ⟨HS.out.1.set 2 (.int .i64 (y2 : Nat)), HS.out.2.setCell (p := ⟨w.heap.size, 2, none⟩) (Nat.le_refl _) _⟩
      generalize zz2.setCell ⟨w.heap.size, 2, none⟩ (.int .i64 (y2 : Nat)) = zz3 at HS ⊢
      replace HS : Hid (Bx ((zz3).setCell ⟨w.heap.size, 3, none⟩ (.int .i64 sz)) w.heap.size #[.int .i64 x, .int .i64 (y1 : Nat), .int .i64 (y2 : Nat), .int .i64 sz] 25 ∧ Below w.heap.size w ((zz3).setCell ⟨w.heap.size, 3, none⟩ (.int .i64 sz))) := Lib.hid ⟨HS.out.1.set 3 (.int .i64 sz), HS.out.2.setCell (p := ⟨w.heap.size, 3, none⟩) (Nat.le_refl _) _⟩
      generalize zz3.setCell ⟨w.heap.size, 3, none⟩ (.int .i64 sz) = zz4 at HS ⊢
      have x0 : zz4.cell? ⟨w.heap.size, 0, none⟩ = some (.int .i64 x) := HS.out.1.cell 0
      have x1 : zz4.cell? ⟨w.heap.size, 1, none⟩ = some (.int .i64 (y1 : Nat)) := HS.out.1.cell 1
      have x2 : zz4.cell? ⟨w.heap.size, 2, none⟩ = some (.int .i64 (y2 : Nat)) := HS.out.1.cell 2
      have x3 : zz4.cell? ⟨w.heap.size, 3, none⟩ = some (.int .i64 sz) := HS.out.1.cell 3
      exact bodyPost_ret (v := .tuple #[.agg (ret4 x (y1 : Nat) (y2 : Nat) sz), .int .i64 0]) (by simp [results, Tryd.results9, go_sem, x0, x1, x2, x3, ret4]) rfl ⟨by rw [HY1.out, HY2.out], HS.out.2⟩
  · have hsz1 : szK kd = 1 := by
      have h0 : kd = 0 := by
        have hq := HKd.out
        revert hkd
        rw [← hq]
        unfold kindO
        repeat' split
        all_goals simp
      rw [h0]; rfl
    have hs2 : 1 ≤ sz ∧ sz ≤ 1 := by have := HSz.out; omega
    have hk0 : kd = 0 := by
      unfold szK at hsz1
      split at hsz1
      · omega
      · split at hsz1
        · omega
        · split at hsz1 <;> omega
    subst hk0
    have hO : Hid (∀ V, Calls Tryd.prog 27 #[.int .i64 x] V fun e w' => e = .returned (.string ⟨#[]⟩) ∧ w' = V) := HOp
    obtain rfl : 0 = OA := HA.out.symm
    obtain rfl : 0 = OB := HB.out.symm
    obtain ⟨gI, hgI⟩ : ∃ q, q = W2.heap.size := ⟨_, rfl⟩
    have HT := Lib.hid (HIt.out ⟨#[]⟩)
    rw [← hgI] at HT hg
    have HGI := Lib.hid hgI
    clear hgI hsz1
    go_wp2_with fail
    all_goals
      refine (hO.out _).mono ?_
      rintro e W2 ⟨rfl, rfl⟩
      go_wp2_with fail
      rw [← HGI.out]
      obtain ⟨V0, hV0⟩ : ∃ V, V = W2.iter ⟨#[]⟩ 0 := ⟨_, rfl⟩
      rw [← hV0] at HT ⊢
      clear hV0
      have HR := HT
      clear HT
      refine wp_loop_rounds 1 ?_
      rw [rounds_succ]
      have q := fun ty => next_n V0 gI ⟨#[]⟩ 0 HR.out.2.2.1 (by decide) ty
      have u0 : V0.cell? ⟨w.heap.size, 0, none⟩ = some (.int .i64 0) := HR.out.1.cell 0
      have t0 : V0.frozen? ⟨w.heap.size, 0, none⟩ = false := HR.out.1.frz 0
      have u1 : V0.cell? ⟨w.heap.size, 1, none⟩ = some (.int .i64 0) := HR.out.1.cell 1
      have t1 : V0.frozen? ⟨w.heap.size, 1, none⟩ = false := HR.out.1.frz 1
      have u2 : V0.cell? ⟨w.heap.size, 2, none⟩ = some (.int .i64 0) := HR.out.1.cell 2
      have t2 : V0.frozen? ⟨w.heap.size, 2, none⟩ = false := HR.out.1.frz 2
      have u3 : V0.cell? ⟨w.heap.size, 3, none⟩ = some (.int .i64 0) := HR.out.1.cell 3
      have t3 : V0.frozen? ⟨w.heap.size, 3, none⟩ = false := HR.out.1.frz 3
      have m0 : V0.cell? ⟨w.heap.size + 1, 0, none⟩ = some (.int .i64 x) := HR.out.2.1.cell 0
      have m1 : V0.cell? ⟨w.heap.size + 1, 1, none⟩ = some (.int .i64 0) := HR.out.2.1.cell 1
      have m2 : V0.cell? ⟨w.heap.size + 1, 2, none⟩ = some (.int .i64 0) := HR.out.2.1.cell 2
      have m3 : V0.cell? ⟨w.heap.size + 1, 3, none⟩ = some (.int .i64 sz) := HR.out.2.1.cell 3
      go_wp2_with fail
      clear u0 u1 u2 u3 t0 t1 t2 t3 m0 m1 m2 m3
      have HS : Hid (Bx V0 w.heap.size #[.int .i64 0, .int .i64 0, .int .i64 0, .int .i64 0] 25 ∧ Below w.heap.size w V0) := Lib.hid ⟨HR.out.1, HR.out.2.2.2⟩
      replace HS : Hid (Bx ((V0).setCell ⟨w.heap.size, 0, none⟩ (.int .i64 x)) w.heap.size #[.int .i64 x, .int .i64 0, .int .i64 0, .int .i64 0] 25 ∧ Below w.heap.size w ((V0).setCell ⟨w.heap.size, 0, none⟩ (.int .i64 x))) := Lib.hid ⟨HS.out.1.set 0 (.int .i64 x), HS.out.2.setCell (p := ⟨w.heap.size, 0, none⟩) (Nat.le_refl _) _⟩
      generalize V0.setCell ⟨w.heap.size, 0, none⟩ (.int .i64 x) = zz1 at HS ⊢
      replace HS : Hid (Bx ((zz1).setCell ⟨w.heap.size, 1, none⟩ (.int .i64 0)) w.heap.size #[.int .i64 x, .int .i64 0, .int .i64 0, .int .i64 0] 25 ∧ Below w.heap.size w ((zz1).setCell ⟨w.heap.size, 1, none⟩ (.int .i64 0))) := Lib.hid ⟨HS.out.1.set 1 (.int .i64 0), HS.out.2.setCell (p := ⟨w.heap.size, 1, none⟩) (Nat.le_refl _) _⟩
      generalize zz1.setCell ⟨w.heap.size, 1, none⟩ (.int .i64 0) = zz2 at HS ⊢
      replace HS : Hid (Bx ((zz2).setCell ⟨w.heap.size, 2, none⟩ (.int .i64 0)) w.heap.size #[.int .i64 x, .int .i64 0, .int .i64 0, .int .i64 0] 25 ∧ Below w.heap.size w ((zz2).setCell ⟨w.heap.size, 2, none⟩ (.int .i64 0))) := Lib.hid ⟨HS.out.1.set 2 (.int .i64 0), HS.out.2.setCell (p := ⟨w.heap.size, 2, none⟩) (Nat.le_refl _) _⟩
      generalize zz2.setCell ⟨w.heap.size, 2, none⟩ (.int .i64 0) = zz3 at HS ⊢
      replace HS : Hid (Bx ((zz3).setCell ⟨w.heap.size, 3, none⟩ (.int .i64 sz)) w.heap.size #[.int .i64 x, .int .i64 0, .int .i64 0, .int .i64 sz] 25 ∧ Below w.heap.size w ((zz3).setCell ⟨w.heap.size, 3, none⟩ (.int .i64 sz))) := Lib.hid ⟨HS.out.1.set 3 (.int .i64 sz), HS.out.2.setCell (p := ⟨w.heap.size, 3, none⟩) (Nat.le_refl _) _⟩
      generalize zz3.setCell ⟨w.heap.size, 3, none⟩ (.int .i64 sz) = zz4 at HS ⊢
      have x0 : zz4.cell? ⟨w.heap.size, 0, none⟩ = some (.int .i64 x) := HS.out.1.cell 0
      have x1 : zz4.cell? ⟨w.heap.size, 1, none⟩ = some (.int .i64 0) := HS.out.1.cell 1
      have x2 : zz4.cell? ⟨w.heap.size, 2, none⟩ = some (.int .i64 0) := HS.out.1.cell 2
      have x3 : zz4.cell? ⟨w.heap.size, 3, none⟩ = some (.int .i64 sz) := HS.out.1.cell 3
      exact bodyPost_ret (v := .tuple #[.agg (ret4 x 0 0 sz), .int .i64 0]) (by simp [results, Tryd.results9, go_sem, x0, x1, x2, x3, ret4]) rfl ⟨rfl, HS.out.2⟩
end Go.Proofs.YtgdlcnngplfjnaaDoor.Vf
