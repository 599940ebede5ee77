import Derived.WalkKit
import Derived.ProofKit
import Derived.OpenShut
import Derived.Deep.QuietTactic
import Derived.BigQuiet
import Derived.Outline
import Derived.WalkSmall
import Derived.WalkLawsBesides
import Derived.WalkSpells
import Derived.BigGuardPart
import Derived.RegionTactic
import Derived.Deep.RegionHeld3
import Derived.Lib.Hide
import Derived.Deep.MidRow
import Derived.Below
import Derived.Deep.RegionWith
import Derived.Deep.OwnRows
import Derived.Deep.AppendLies
import Derived.Deep.RegionLaw
import Derived.Maps.Own
import Derived.Maps.OwnOps
import Derived.Maps.OwnSet
import Derived.RangeFuncBox
import Derived.Test.YtnbpgoacooddjaaEVb
import Derived.Test.YtnbpgoacooddjaaLk
namespace Go.Proofs.Ytnbpgoacooddjaa.Lab
open Go.ChangeShapes Go.WideShapes Go.ChangeAt Go.RowKit Go.Maps
open Go.Proofs.Ytnbpgoacooddjaa.En
set_option linter.unusedVariables false
/-- The cells of an instruction. -/
def cl (x : In) : List Value := [.int .i64 x.op, .int .i64 x.d, .int .i64 x.n, .int .i64 x.m, .int .i64 x.a, .int .i64 x.c, .int .i64 x.i]
def insL (F : Nat → In) : Nat → List Value
  | 0 => []
  | m + 1 => insL F m ++ cl (F m)
theorem insL_len (F : Nat → In) : ∀ m, (insL F m).length = m * 7 := by
  intro m
  induction m with
  | zero => rfl
  | succ m ih => unfold insL; rw [List.length_append, ih]; simp [cl]; omega
theorem insL_at (F : Nat → In) (j k : Nat) (hk : k < 7) : ∀ m, j < m → (insL F m)[j * 7 + k]? = (cl (F j))[k]? := by
  intro m
  induction m with
  | zero => intro h; omega
  | succ m ih =>
    intro h
    unfold insL
    rcases Nat.lt_or_ge j m with hj | hj
    · rw [List.getElem?_append_left (by rw [insL_len]; omega)]
      exact ih hj
    · obtain rfl : j = m := by omega
      rw [List.getElem?_append_right (by rw [insL_len]; omega), insL_len, Nat.add_sub_cancel_left]
theorem insL_congr (F G : Nat → In) : ∀ m, (∀ j, j < m → F j = G j) → insL F m = insL G m := by
  intro m
  induction m with
  | zero => intro _; rfl
  | succ m ih =>
    intro h
    unfold insL
    rw [ih fun j hj => h j (by omega), h m (by omega)]
def catI (F : Nat → In) (n : Nat) (G : Nat → In) : Nat → In := fun j => if j < n then F j else G (j - n)
theorem insL_cat (F G : Nat → In) (n : Nat) : ∀ m, insL F n ++ insL G m = insL (catI F n G) (n + m) := by
  intro m
  induction m with
  | zero =>
    simp only [insL, List.append_nil, Nat.add_zero]
    exact insL_congr _ _ _ fun j hj => by unfold catI; rw [if_pos hj]
  | succ m ih =>
    rw [← Nat.add_assoc]
    simp only [insL]
    have : catI F n G (n + m) = G m := by
      unfold catI
      rw [if_neg (by omega), Nat.add_sub_cancel_left]
    rw [← List.append_assoc, ih, this]
theorem insL_one (F : Nat → In) (m : Nat) : ∀ u ∈ insL F m, u.oneCell' = true := by
  induction m with
  | zero => intro u hu; cases hu
  | succ m ih =>
    intro u hu
    unfold insL at hu
    rcases List.mem_append.1 hu with h | h
    · exact ih u h
    · simp [cl] at h
      rcases h with rfl | rfl | rfl | rfl | rfl | rfl | rfl <;> rfl
/-- What a change of some blocks leaves as it is. -/
structure Kp (FP : Nat → Prop) (w w' : World) : Prop where
  os : w'.os = w.os
  tape : w'.tape = w.tape
  output : w'.output = w.output
  size : w.heap.size ≤ w'.heap.size
  block : ∀ k, k < w.heap.size → ¬ FP k → w'.heap[k]? = w.heap[k]?
theorem Kp.refl (FP : Nat → Prop) (w : World) : Kp FP w w := ⟨rfl, rfl, rfl, Nat.le_refl _, fun _ _ _ => rfl⟩
theorem Kp.trans {FP FP' : Nat → Prop} {w w' w'' : World} (h : Kp FP w w') (h' : Kp FP' w' w'') (hs : ∀ k, FP' k → FP k ∨ w.heap.size ≤ k) : Kp FP w w'' :=
  ⟨h'.os.trans h.os, h'.tape.trans h.tape, h'.output.trans h.output, Nat.le_trans h.size h'.size, fun k hk hn => (h'.block k (Nat.lt_of_lt_of_le hk h.size) (fun hf => by
    rcases hs k hf with h1 | h1
    · exact hn h1
    · omega)).trans (h.block k hk hn)⟩
theorem Kp.of_below {FP : Nat → Prop} {w w' : World} (h : Below w.heap.size w w') : Kp FP w w' := ⟨h.os, h.tape, h.output, h.size, fun k hk _ => h.block k hk⟩
theorem Kp.of_grown {FP : Nat → Prop} {w w' : World} {r : Option Nat} (h : w.grownBy w' r) (hr : ∀ b, r = some b → FP b) : Kp FP w w' := ⟨h.os, h.tape, h.output, h.size, fun k hk hn => h.block k hk (fun e => hn (hr k e.symm))⟩
theorem Kp.below {FP : Nat → Prop} {w w' : World} {B : Nat} (h : Kp FP w w') (hB : B ≤ w.heap.size) (hf : ∀ k, FP k → B ≤ k) : Below B w w' := ⟨h.os, h.tape, h.output, h.size, fun k hk => h.block k (by omega) (fun e => by have := hf k e; omega)⟩
theorem Kp.mono {FP FP' : Nat → Prop} {w w' : World} (h : Kp FP w w') (hs : ∀ k, FP k → FP' k) : Kp FP' w w' := ⟨h.os, h.tape, h.output, h.size, fun k hk hn => h.block k hk (fun e => hn (hs k e))⟩
/-- Code with labels, as plain data. -/
structure Lb where
  at0 : Int
  n : Nat
  F : Nat → In
  cnt : Nat
  D : DataW Unit
  jn : Nat
  nm : Nat → ByteArray
  pl : Nat → Int
  err : Int
def jmpV (bx bY bz : Nat) : Value := .func (.func 107) #[] #[.pointer (some ⟨bx, 0, none⟩), .pointer (some ⟨bY, 0, none⟩), .pointer (some ⟨bz, 0, none⟩)]
def jmpL (bx bY bz : Nat → Nat) (n : Nat) : List Value := (List.range n).map fun k => jmpV (bx k) (bY k) (bz k)
def cellsL (at0 : Int) (v1 : Value) (mb : Nat) (v3 : Value) (err : Int) : Array Value := #[.int .u64 at0, v1, .map (some mb), v3, .int .i64 err]
/-- Where it lies: the blocks FP are its own. -/
structure LbC (w : World) (FP : Nat → Prop) (p : Nat) (S : Lb) (mb : Nat) (v1 v3 : Value) (bx bY bz : Nat → Nat) : Prop where
  row : w.heap[p]? = some (.cells (cellsL S.at0 v1 mb v3 S.err) 149 (0, 0))
  ins : w.ownsRow 0 29 7 v1 S.n (insL S.F S.n)
  map : w.ownsMap Try.prog 9 (plainElem (H := Unit) Try.prog 3) mb S.cnt S.D
  jmp : w.ownsRow 0 152 1 v3 S.jn (jmpL bx bY bz S.jn)
  box : ∀ k, k < S.jn → Boxed w (bx k) 43 (.pointer (some ⟨p, 0, none⟩)) ∧ Boxed w (bY k) 9 (.string (S.nm k)) ∧ Boxed w (bz k) 3 (.int .i64 (S.pl k)) ∧ FP (bx k) ∧ FP (bY k) ∧ FP (bz k)
  fp : FP p
  fm : FP mb
  f1 : ∀ g, v1.ownBlock = some g → FP g
  f3 : ∀ g, v3.ownBlock = some g → FP g
  fl : ∀ k, FP k → k < w.heap.size
  nl : S.n ≤ 65536
theorem ownsRow_kept {w w' : World} {base n size : Nat} {e : TypeId} {v : Value} {xs : List Value} (h : w.ownsRow base e size v n xs) (hk : ∀ g, v.ownBlock = some g → w'.heap[g]? = w.heap[g]?) : w'.ownsRow base e size v n xs := by
  refine ⟨h.1, ?_⟩
  rcases h.2 with h2 | ⟨g, cap, cur, rfl, hb, hg, h3⟩
  · exact .inl h2
  · exact .inr ⟨g, cap, cur, rfl, hb, (hk g rfl).trans hg, h3⟩
theorem ownsMap_kept {w w' : World} {k : TypeId} {b n : Nat} {R : Value → Option (DataW Unit × List MemPlace)} {D : DataW Unit} (h : w.ownsMap Try.prog k R b n D) (hk : w'.heap[b]? = w.heap[b]?) : w'.ownsMap Try.prog k R b n D := by
  obtain ⟨es, clock, hb, r⟩ := h
  exact ⟨es, clock, hk.trans hb, r⟩
/-- It is as it was where its own blocks are. -/
theorem LbC.kept {w w' : World} {FP : Nat → Prop} {p mb : Nat} {S : Lb} {v1 v3 : Value} {bx bY bz : Nat → Nat} (h : LbC w FP p S mb v1 v3 bx bY bz) (hs : w.heap.size ≤ w'.heap.size) (hk : ∀ k, FP k → w'.heap[k]? = w.heap[k]?) : LbC w' FP p S mb v1 v3 bx bY bz where
  row := (hk p h.fp).trans h.row
  ins := ownsRow_kept h.ins fun g hg => hk g (h.f1 g hg)
  map := ownsMap_kept h.map (hk mb h.fm)
  jmp := ownsRow_kept h.jmp fun g hg => hk g (h.f3 g hg)
  box := fun k hkn => by
    obtain ⟨a, b, c, fa, fb, fc⟩ := h.box k hkn
    exact ⟨(hk _ fa).trans a, (hk _ fb).trans b, (hk _ fc).trans c, fa, fb, fc⟩
  fp := h.fp
  fm := h.fm
  f1 := h.f1
  f3 := h.f3
  fl := fun k hf => Nat.lt_of_lt_of_le (h.fl k hf) hs
  nl := h.nl
theorem LbC.past {w w' : World} {FP : Nat → Prop} {p mb : Nat} {S : Lb} {v1 v3 : Value} {bx bY bz : Nat → Nat} (h : LbC w FP p S mb v1 v3 bx bY bz) (hb : Below w.heap.size w w') : LbC w' FP p S mb v1 v3 bx bY bz :=
  h.kept hb.size fun k hf => hb.block k (h.fl k hf)
theorem LbC.rw {w : World} {FP : Nat → Prop} {p mb : Nat} {S : Lb} {v1 v3 : Value} {bx bY bz : Nat → Nat} (h : LbC w FP p S mb v1 v3 bx bY bz) : rowAt w p = some (cellsL S.at0 v1 mb v3 S.err) := rowAt_of h.row
theorem own_heap {w : World} {base n size g : Nat} {e : TypeId} {v : Value} {xs : List Value} (h : w.ownsRow base e size v n xs) (hg : v.ownBlock = some g) : ∃ cur, w.heap[g]? = some (.cells cur e (0, 0)) := by
  rcases h.2 with ⟨rfl, _⟩ | ⟨g', cap, cur, rfl, hb, hg', _⟩
  · cases hg
  · injection hg with hg
    subst hg
    exact ⟨cur, hg'⟩
theorem ne_of_obj {w : World} {a b : Nat} {x y : Obj} (ha : w.heap[a]? = some x) (hb : w.heap[b]? = some y) (h : x ≠ y) : a ≠ b := fun e => by
  subst e
  rw [ha] at hb
  injection hb with hb
  exact h hb
theorem ne_ty {c d : Array Value} {t u : TypeId} {f g : Nat × Nat} (h : t ≠ u) : Obj.cells c t f ≠ Obj.cells d u g := fun e => by injection e with _ e _; exact h e
theorem ne_map {es : Array MapEntry} {ck : Nat} {d : Array Value} {u : TypeId} {g : Nat × Nat} : Obj.map es ck ≠ Obj.cells d u g := fun e => by cases e
section
variable {w : World} {FP : Nat → Prop} {p mb : Nat} {S : Lb} {v1 v3 : Value} {bx bY bz : Nat → Nat}
theorem LbC.mp (h : LbC w FP p S mb v1 v3 bx bY bz) : mb ≠ p := by
  obtain ⟨es, ck, hb, _⟩ := h.map
  exact ne_of_obj hb h.row ne_map
theorem LbC.p1 (h : LbC w FP p S mb v1 v3 bx bY bz) {g : Nat} (hg : v1.ownBlock = some g) : g ≠ p := by
  obtain ⟨cur, hc⟩ := own_heap h.ins hg
  exact ne_of_obj hc h.row (ne_ty (by decide))
theorem LbC.p3 (h : LbC w FP p S mb v1 v3 bx bY bz) {g : Nat} (hg : v3.ownBlock = some g) : g ≠ p := by
  obtain ⟨cur, hc⟩ := own_heap h.jmp hg
  exact ne_of_obj hc h.row (ne_ty (by decide))
theorem LbC.m1 (h : LbC w FP p S mb v1 v3 bx bY bz) {g : Nat} (hg : v1.ownBlock = some g) : mb ≠ g := by
  obtain ⟨cur, hc⟩ := own_heap h.ins hg
  obtain ⟨es, ck, hb, _⟩ := h.map
  exact ne_of_obj hb hc ne_map
theorem LbC.m3 (h : LbC w FP p S mb v1 v3 bx bY bz) {g : Nat} (hg : v3.ownBlock = some g) : mb ≠ g := by
  obtain ⟨cur, hc⟩ := own_heap h.jmp hg
  obtain ⟨es, ck, hb, _⟩ := h.map
  exact ne_of_obj hb hc ne_map
theorem LbC.o13 (h : LbC w FP p S mb v1 v3 bx bY bz) {g k : Nat} (hg : v1.ownBlock = some g) (hk : v3.ownBlock = some k) : g ≠ k := by
  obtain ⟨cur, hc⟩ := own_heap h.ins hg
  obtain ⟨cur', hc'⟩ := own_heap h.jmp hk
  exact ne_of_obj hc hc' (ne_ty (by decide))
theorem LbC.bp (h : LbC w FP p S mb v1 v3 bx bY bz) {k : Nat} (hk : k < S.jn) : bx k ≠ p ∧ bY k ≠ p ∧ bz k ≠ p := by
  obtain ⟨a, b, c, _⟩ := h.box k hk
  exact ⟨ne_of_obj a h.row (ne_ty (by decide)), ne_of_obj b h.row (ne_ty (by decide)), ne_of_obj c h.row (ne_ty (by decide))⟩
theorem LbC.bm (h : LbC w FP p S mb v1 v3 bx bY bz) {k : Nat} (hk : k < S.jn) : bx k ≠ mb ∧ bY k ≠ mb ∧ bz k ≠ mb := by
  obtain ⟨a, b, c, _⟩ := h.box k hk
  obtain ⟨es, ck, hb, _⟩ := h.map
  exact ⟨(ne_of_obj hb a ne_map).symm, (ne_of_obj hb b ne_map).symm, (ne_of_obj hb c ne_map).symm⟩
theorem LbC.b1 (h : LbC w FP p S mb v1 v3 bx bY bz) {k g : Nat} (hk : k < S.jn) (hg : v1.ownBlock = some g) : bx k ≠ g ∧ bY k ≠ g ∧ bz k ≠ g := by
  obtain ⟨a, b, c, _⟩ := h.box k hk
  obtain ⟨cur, hc⟩ := own_heap h.ins hg
  exact ⟨ne_of_obj a hc (ne_ty (by decide)), ne_of_obj b hc (ne_ty (by decide)), ne_of_obj c hc (ne_ty (by decide))⟩
theorem LbC.b3 (h : LbC w FP p S mb v1 v3 bx bY bz) {k g : Nat} (hk : k < S.jn) (hg : v3.ownBlock = some g) : bx k ≠ g ∧ bY k ≠ g ∧ bz k ≠ g := by
  obtain ⟨a, b, c, _⟩ := h.box k hk
  obtain ⟨cur, hc⟩ := own_heap h.jmp hg
  exact ⟨ne_of_obj a hc (ne_ty (by decide)), ne_of_obj b hc (ne_ty (by decide)), ne_of_obj c hc (ne_ty (by decide))⟩
/-- Its own row turns, and that of its instructions. -/
theorem LbC.turn (h : LbC w FP p S mb v1 v3 bx bY bz) {w' : World} {FP' : Nat → Prop} (S' : Lb) (v1' : Value) (hp : w'.heap[p]? = some (.cells (cellsL S'.at0 v1' mb v3 S'.err) 149 (0, 0))) (hk : ∀ k, FP k → k ≠ p → v1.ownBlock ≠ some k → w'.heap[k]? = w.heap[k]?)
    (e1 : S'.D = S.D ∧ S'.cnt = S.cnt) (i1 : w'.ownsRow 0 29 7 v1' S'.n (insL S'.F S'.n)) (i3 : S'.jn = S.jn ∧ S'.nm = S.nm ∧ S'.pl = S.pl) (f1 : ∀ g, v1'.ownBlock = some g → FP' g) (hF : ∀ k, FP k → FP' k) (fl : ∀ k, FP' k → k < w'.heap.size) (nl : S'.n ≤ 65536) : LbC w' FP' p S' mb v1' v3 bx bY bz := by
  obtain ⟨e2, e3, e4⟩ := i3
  obtain ⟨e5, e6⟩ := e1
  refine ⟨hp, i1, ?_, ?_, ?_, hF _ h.fp, hF _ h.fm, f1, fun g hg => hF _ (h.f3 g hg), fl, nl⟩
  · rw [e5, e6]
    exact ownsMap_kept h.map (hk mb h.fm h.mp (fun e => h.m1 e rfl))
  · rw [e2]
    exact ownsRow_kept h.jmp fun g hg => hk g (h.f3 g hg) (h.p3 hg) (fun e => h.o13 e hg rfl)
  · rw [e2, e3, e4]
    intro k hkn
    obtain ⟨a, b, c, fa, fb, fc⟩ := h.box k hkn
    obtain ⟨na, nb, nc⟩ := h.bp hkn
    exact ⟨(hk _ fa na (fun e => (h.b1 hkn e).1 rfl)).trans a, (hk _ fb nb (fun e => (h.b1 hkn e).2.1 rfl)).trans b, (hk _ fc nc (fun e => (h.b1 hkn e).2.2 rfl)).trans c, hF _ fa, hF _ fb, hF _ fc⟩
theorem setP_heap {w : World} {p k : Nat} {C : Array Value} {v : Value} (h : w.heap[p]? = some (.cells C 149 (0, 0))) : (w.setCell ⟨p, k, none⟩ v).heap[p]? = some (.cells (C.setIfInBounds k v) 149 (0, 0)) := by
  rw [setCell_eq_setRow w p k C 149 (0, 0) v h]
  exact setRow_heap _ _ _ _ _ _ h
theorem LbC.setErr (h : LbC w FP p S mb v1 v3 bx bY bz) (e : Int) : LbC (w.setCell ⟨p, 4, none⟩ (.int .i64 e)) FP p { S with err := e } mb v1 v3 bx bY bz := by
  have hk : ∀ k, FP k → k ≠ p → (w.setCell ⟨p, 4, none⟩ (.int .i64 e)).heap[k]? = w.heap[k]? := fun k _ hn => Below.heap_setCell _ _ _ _ hn
  exact h.turn _ _ (setP_heap h.row) (fun k hf hn _ => hk k hf hn) ⟨rfl, rfl⟩ (ownsRow_kept h.ins fun g hg => hk g (h.f1 g hg) (h.p1 hg)) ⟨rfl, rfl, rfl⟩ h.f1 (fun _ h => h) (fun k hf => by simpa using h.fl k hf) h.nl
theorem kp_set {FP : Nat → Prop} (w : World) (p k : Nat) (v : Value) (hp : FP p) : Kp FP w (w.setCell ⟨p, k, none⟩ v) :=
  Kp.of_grown (grown_set w ⟨p, k, none⟩ v) (fun b hb => by injection hb with hb; subst hb; exact hp)
end
attribute [local go_sem] rowAt_drew rowAt_drewN
/-- fail (80): the first error stays. -/
def Lb.fail (S : Lb) (e : Int) : Lb := if S.err = 0 then { S with err := e } else S
set_option maxRecDepth 100000 in
set_option maxHeartbeats 4000000 in
theorem fail_c (w : World) (FP : Nat → Prop) (p : Nat) (S : Lb) (mb : Nat) (v1 v3 : Value) (bx bY bz : Nat → Nat) (e0 : Int) (h : LbC w FP p S mb v1 v3 bx bY bz) :
    Calls Try.prog 80 #[.pointer (some ⟨p, 0, none⟩), .int .i64 e0] w fun e w' => e = .returned (.tuple #[]) ∧ LbC w' FP p (S.fail e0) mb v1 v3 bx bY bz ∧ Kp FP w w' := by
  have H := Lib.hid h
  have c4 := rowAt_cell h.rw 4
  have f4 := rowAt_frz h.rw 4
  clear h
  by_cases he : S.err = 0
  · have hS : S.fail e0 = { S with err := e0 } := if_pos he
    rw [hS]
    have HS := Lib.hid (H.out.setErr e0)
    have HK : Hid (Kp FP w (w.setCell ⟨p, 4, none⟩ (.int .i64 e0))) := Lib.hid (kp_set w p 4 _ H.out.fp)
    simp only [cellsL, he] at c4
    go_enter Try.func80, Try.ntmps80
    go_wp2
    refine bodyPost_end (v := .tuple #[]) ?_ rfl ⟨rfl, HS.out, HK.out⟩
    simp [results, Try.f80]
  · have hS : S.fail e0 = S := if_neg he
    rw [hS]
    have hne : (S.err == 0) = false := by simpa using he
    simp only [cellsL] at c4
    go_enter Try.func80, Try.ntmps80
    go_wp2
    refine bodyPost_end (v := .tuple #[]) ?_ rfl ⟨rfl, H.out, Kp.refl _ _⟩
    simp [results, Try.f80]
def In0 : In := ⟨0, 0, 0, 0, 0, 0, 0⟩
/-- New. -/
def Lb.new (at0 : Int) : Lb := ⟨at0, 0, fun _ => In0, 0, .map [], 0, fun _ => ByteArray.empty, fun _ => 0, 0⟩
set_option maxRecDepth 100000 in
set_option maxHeartbeats 4000000 in
theorem new_c (at0 : Int) (w : World) :
    Calls Try.prog 20 #[.int .u64 at0] w fun e w' => e = .returned (.pointer (some ⟨w.heap.size + 1, 0, none⟩)) ∧ LbC w' (fun k => w.heap.size ≤ k ∧ k < w.heap.size + 2) (w.heap.size + 1) (Lb.new at0) w.heap.size (.slice none 0 0) (.slice none 0 0) (fun _ => 0) (fun _ => 0) (fun _ => 0) ∧ Below w.heap.size w w' := by
  have hmm := @run_makeMap Try.prog
  have HB : Hid (Below w.heap.size w ((w.alloc (.map #[] 0)).alloc (.cells (cellsL at0 (.slice none 0 0) w.heap.size (.slice none 0 0) 0) 149))) := Lib.hid (((Below.refl _ _).alloc (Nat.le_refl _) _).alloc (by simp) _)
  have hs : (w.alloc (.map #[] 0)).heap.size = w.heap.size + 1 := by simp
  have HC : Hid (LbC ((w.alloc (.map #[] 0)).alloc (.cells (cellsL at0 (.slice none 0 0) w.heap.size (.slice none 0 0) 0) 149)) (fun k => w.heap.size ≤ k ∧ k < w.heap.size + 2) (w.heap.size + 1) (Lb.new at0) w.heap.size (.slice none 0 0) (.slice none 0 0) (fun _ => 0) (fun _ => 0) (fun _ => 0)) := Lib.hid (by
    refine ⟨?_, ⟨rfl, .inl ⟨rfl, rfl⟩⟩, (World.ownsMap_made w _ _ _).alloc _, ⟨rfl, .inl ⟨rfl, rfl⟩⟩, fun k hk => absurd hk (Nat.not_lt_zero _), ⟨by omega, by omega⟩, ⟨by omega, by omega⟩, fun g hg => (by cases hg), fun g hg => (by cases hg), fun k hk => ?_, Nat.zero_le _⟩
    · have := heap_alloc_new (w.alloc (.map #[] 0)) (.cells (cellsL at0 (.slice none 0 0) w.heap.size (.slice none 0 0) 0) 149)
      rw [hs] at this
      exact this
    · simp
      omega)
  clear hs
  go_enter Try.func20, Try.ntmps20
  go_wp2
  go_ret
  exact ⟨rfl, HC.out, HB.out⟩
theorem own_form {w : World} {base n size : Nat} {e : TypeId} {v : Value} {xs : List Value} (h : w.ownsRow base e size v n xs) : ∃ a cap, v = .slice a n cap ∧ n ≤ cap := by
  rcases h.2 with ⟨rfl, rfl⟩ | ⟨g, cap, cur, rfl, _, _, hc, _⟩
  · exact ⟨none, 0, rfl, Nat.le_refl _⟩
  · exact ⟨_, cap, rfl, hc⟩
def placeS (at0 : Int) (n : Nat) : Int := IntKind.u64.wrap (at0 + 4 * (n : Int))
set_option maxRecDepth 100000 in
theorem place_c (w : World) (FP : Nat → Prop) (p : Nat) (S : Lb) (mb : Nat) (v1 v3 : Value) (bx bY bz : Nat → Nat) (k : Nat) (hk : k ≤ 1000000) (h : LbC w FP p S mb v1 v3 bx bY bz) :
    Calls Try.prog 105 #[.pointer (some ⟨p, 0, none⟩), .int .i64 k] w fun e w' => e = .returned (.int .u64 (placeS S.at0 k)) ∧ w = w' := by
  have c0 := rowAt_cell h.rw 0
  simp only [cellsL] at c0
  go_enter Try.func105, Try.ntmps105
  go_wp2
  go_ret
  exact ⟨rfl, rfl⟩
set_option maxRecDepth 100000 in
theorem len_c (w : World) (FP : Nat → Prop) (p : Nat) (S : Lb) (mb : Nat) (v1 v3 : Value) (bx bY bz : Nat → Nat) (h : LbC w FP p S mb v1 v3 bx bY bz) :
    Calls Try.prog 32 #[.pointer (some ⟨p, 0, none⟩)] w fun e w' => e = .returned (.int .i64 S.n) ∧ w = w' := by
  have c1 := rowAt_cell h.rw 1
  obtain ⟨a, cap, rfl, _⟩ := own_form h.ins
  simp only [cellsL] at c1
  go_enter Try.func32, Try.ntmps32
  go_wp2
  go_ret
  exact ⟨rfl, rfl⟩
set_option maxRecDepth 100000 in
theorem here_c (w : World) (FP : Nat → Prop) (p : Nat) (S : Lb) (mb : Nat) (v1 v3 : Value) (bx bY bz : Nat → Nat) (h : LbC w FP p S mb v1 v3 bx bY bz) :
    Calls Try.prog 27 #[.pointer (some ⟨p, 0, none⟩)] w fun e w' => e = .returned (.int .u64 (placeS S.at0 S.n)) ∧ w = w' := by
  have H := Lib.hid h
  have c1 := rowAt_cell h.rw 1
  obtain ⟨a, cap, rfl, _⟩ := own_form h.ins
  simp only [cellsL] at c1
  clear h
  go_enter Try.func27, Try.ntmps27
  go_wp2_with (go_at_call 105; refine (place_c _ FP p S mb _ v3 bx bY bz S.n (by have := H.out.nl; omega) H.out).mono ?_; rintro e w' ⟨rfl, rfl⟩)
  go_ret
  exact ⟨rfl, rfl⟩
set_option maxRecDepth 100000 in
theorem err_c (w : World) (FP : Nat → Prop) (p : Nat) (S : Lb) (mb : Nat) (v1 v3 : Value) (bx bY bz : Nat → Nat) (h : LbC w FP p S mb v1 v3 bx bY bz) :
    Calls Try.prog 39 #[.pointer (some ⟨p, 0, none⟩)] w fun e w' => e = .returned (.int .i64 S.err) ∧ w = w' := by
  have c4 := rowAt_cell h.rw 4
  simp only [cellsL] at c4
  go_enter Try.func39, Try.ntmps39
  go_wp2
  go_ret
  exact ⟨rfl, rfl⟩
set_option maxRecDepth 100000 in
/-- Is an instruction wrong? -/
theorem put1_c (x : In) (w : World) : Calls Try.prog 109 #[x.v] w fun e w' => e = .returned (.bool (x.e != 0)) ∧ Below w.heap.size w w' := by
  have HC := Lib.hid (x.check (w.alloc (.cells #[.int .i64 x.op, .int .i64 x.d, .int .i64 x.n, .int .i64 x.m, .int .i64 x.a, .int .i64 x.c, .int .i64 x.i] 29)))
  have HB : Hid (Below w.heap.size w (w.alloc (.cells #[.int .i64 x.op, .int .i64 x.d, .int .i64 x.n, .int .i64 x.m, .int .i64 x.a, .int .i64 x.c, .int .i64 x.i] 29))) := Lib.hid ((Below.refl _ _).alloc (Nat.le_refl _) _)
  show Calls Try.prog 109 #[.agg #[.int .i64 x.op, .int .i64 x.d, .int .i64 x.n, .int .i64 x.m, .int .i64 x.a, .int .i64 x.c, .int .i64 x.i]] w _
  go_enter Try.func109, Try.ntmps109
  go_wp2_with (go_at_call 31; refine HC.out.mono ?_; rintro e w2 ⟨rfl, hb2⟩; have HB2 := Lib.hid (below_step HB.out hb2 rfl rfl rfl rfl); clear hb2)
  go_ret
  exact ⟨rfl, HB2.out⟩
end Go.Proofs.Ytnbpgoacooddjaa.Lab
