import Derived.Test.YtjcbhomfggjmhaaMh
namespace Go.Proofs.Ytjcbhomfggjmhaa.Mm
open Go.ChangeShapes Go.WideShapes Go.ChangeAt Go.RowKit Go.Maps
set_option linter.unusedVariables false
/-! ### The document's cells: core, place, word -/
structure Cl where
  c : Int
  a : Nat
  w : Nat
def clL (l : List Cl) : List Value := l.flatMap fun x => [.int .i64 x.c, .int .u64 (x.a : Nat), .int .u32 (x.w : Nat)]
theorem clL_len (l : List Cl) : (clL l).length = l.length * 3 := by
  unfold clL
  induction l with
  | nil => rfl
  | cons x l ih => simp [List.flatMap_cons, ih]; omega
theorem clL_app (l m : List Cl) : clL (l ++ m) = clL l ++ clL m := by unfold clL; rw [List.flatMap_append]
theorem clL_one (l : List Cl) : ∀ u ∈ clL l, u.oneCell' = true := by
  intro u hu
  unfold clL at hu
  rw [List.mem_flatMap] at hu
  obtain ⟨x, _, hx⟩ := hu
  simp only [List.mem_cons, List.not_mem_nil, or_false] at hx
  rcases hx with rfl | rfl | rfl <;> rfl
theorem clL_take : ∀ (l : List Cl) (i : Nat), (clL l).take (i * 3) = clL (l.take i)
  | [], i => by show ([] : List Value).take _ = clL (([] : List Cl).take i); rw [List.take_nil, List.take_nil]; rfl
  | x :: l, 0 => rfl
  | x :: l, i + 1 => by
    rw [show (i + 1) * 3 = i * 3 + 3 by omega, List.take_succ_cons]
    show (([.int .i64 x.c, .int .u64 (x.a : Nat), .int .u32 (x.w : Nat)] : List Value) ++ clL l).take (i * 3 + 3) = ([.int .i64 x.c, .int .u64 (x.a : Nat), .int .u32 (x.w : Nat)] : List Value) ++ clL (l.take i)
    rw [← clL_take l i]
    rfl
theorem clL_drop : ∀ (l : List Cl) (i : Nat), (clL l).drop (i * 3) = clL (l.drop i)
  | [], i => by show ([] : List Value).drop _ = clL (([] : List Cl).drop i); rw [List.drop_nil, List.drop_nil]; rfl
  | x :: l, 0 => rfl
  | x :: l, i + 1 => by
    rw [show (i + 1) * 3 = i * 3 + 3 by omega, List.drop_succ_cons, ← clL_drop l i]
    rfl
def cz : Cl := ⟨0, 0, 0⟩
theorem clL_get (l : List Cl) (j : Nat) (hj : j < l.length) : (clL l)[j * 3]? = some (.int .i64 (l.getD j cz).c) ∧ (clL l)[j * 3 + 1]? = some (.int .u64 ((l.getD j cz).a : Nat)) ∧ (clL l)[j * 3 + 2]? = some (.int .u32 ((l.getD j cz).w : Nat)) := by
  have h1 := clL_drop l j
  have e : (clL l).drop (j * 3) = [.int .i64 (l.getD j cz).c, .int .u64 ((l.getD j cz).a : Nat), .int .u32 ((l.getD j cz).w : Nat)] ++ clL (l.drop (j + 1)) := by
    rw [h1, List.drop_eq_getElem_cons hj]
    have : l.getD j cz = l[j] := by rw [List.getD_eq_getElem?_getD, List.getElem?_eq_getElem hj]; rfl
    rw [this]
    rfl
  refine ⟨?_, ?_, ?_⟩
  · have h2 : ((clL l).drop (j * 3))[0]? = some (.int .i64 (l.getD j cz).c) := by rw [e]; rfl
    rw [List.getElem?_drop] at h2
    exact h2
  · have h2 : ((clL l).drop (j * 3))[1]? = some (.int .u64 ((l.getD j cz).a : Nat)) := by rw [e]; rfl
    rw [List.getElem?_drop] at h2
    exact h2
  · have h2 : ((clL l).drop (j * 3))[2]? = some (.int .u32 ((l.getD j cz).w : Nat)) := by rw [e]; rfl
    rw [List.getElem?_drop] at h2
    exact h2
/-- Where the first cell of a core and a place stands; or -1. -/
def Cl.hit (x : Cl) (c : Int) (a : Nat) : Bool := x.c == c && x.a == a
def fd (l : List Cl) (c : Int) (a : Nat) : Int := match l.findIdx? (fun x => x.hit c a) with
  | some i => (i : Int)
  | none => -1
theorem fd_hit {l : List Cl} {c : Int} {a i : Nat} (hi : i < l.length) (h : (l.getD i cz).hit c a = true) (hn : ∀ j, j < i → (l.getD j cz).hit c a = false) : fd l c a = i := by
  have hg : ∀ j (hj : j < l.length), l.getD j cz = l[j] := fun j hj => by rw [List.getD_eq_getElem?_getD, List.getElem?_eq_getElem hj]; rfl
  unfold fd
  rw [List.findIdx?_eq_some_iff_getElem.2 ⟨hi, by rw [← hg i hi]; exact h, fun j hj => by rw [← hg j (by omega), hn j hj]; exact Bool.false_ne_true⟩]
theorem fd_miss {l : List Cl} {c : Int} {a : Nat} (hn : ∀ j, j < l.length → (l.getD j cz).hit c a = false) : fd l c a = -1 := by
  unfold fd
  rw [List.findIdx?_eq_none_iff.2 fun x hx => by
    obtain ⟨j, hj, rfl⟩ := List.mem_iff_getElem.1 hx
    have := hn j hj
    rw [List.getD_eq_getElem?_getD, List.getElem?_eq_getElem hj] at this
    exact this]
set_option maxRecDepth 100000 in
set_option maxHeartbeats 4000000 in
theorem find_c (w : World) (B : Nat) (v : Value) (l : List Cl) (ho : w.ownsRow B 115 3 v l.length (clL l)) (hb : l.length ≤ 1000000) (c : Int) (a : Nat) :
    Calls Try.prog 64 #[v, .int .i64 c, .int .u64 (a : Nat)] w fun e w' => e = .returned (.int .i64 (fd l c a)) ∧ w' = w := by
  obtain ⟨pa, cp, hv, hf⟩ := own_form ho
  rw [hv] at ho ⊢
  have HO := Lib.hid ho
  clear ho hv
  go_enter Try.func64, Try.ntmps64
  go_wp2
  go_loopw [7] (fun s7 wr => ∃ j : Nat, j ≤ l.length ∧ s7 = .int .i64 j ∧ Hid (∀ i, i < j → (l.getD i cz).hit c a = false) ∧ wr = w) (fun s7 _ => l.length + 1 - (intOf s7).toNat)
  case atStart => exact ⟨0, by omega, rfl, Lib.hid (fun i hi => by omega), rfl⟩
  case round =>
    obtain ⟨j, hj, rfl, HN, hwr⟩ := hrel
    obtain rfl := hwr.symm
    by_cases hlj : j < l.length
    · obtain ⟨g, rfl⟩ : ∃ g, pa = some ⟨g, 0, none⟩ := by
        rcases hf with hf | hf
        · omega
        · exact hf
      obtain ⟨i1, i2, _⟩ := clL_get l j hlj
      have e0 := (own_cells HO.out).1 _ _ i1
      have e1 := (own_cells HO.out).1 _ _ i2
      have gj : (j : Int) < l.length := by omega
      obtain ⟨y, hy⟩ : ∃ y, l.getD j cz = y := ⟨_, rfl⟩
      have HY := Lib.hid hy
      have HJ := Lib.hid hlj
      rw [hy] at e0 e1
      clear i1 i2 hy
      by_cases hyc : y.c = c
      · have q1 : (y.c == c) = true := by simpa using hyc
        by_cases hya : y.a = a
        · have q2 : ((y.a : Int) == (a : Int)) = true := by rw [hya]; simp
          have HF : Hid (fd l c a = j) := Lib.hid (fd_hit HJ.out (by rw [HY.out]; unfold Cl.hit; rw [hyc, hya]; simp) HN.out)
          clear hyc hya
          go_wp2
          go_ret
          exact ⟨by rw [HF.out]; rfl, rfl⟩
        · have q2 : ((y.a : Int) == (a : Int)) = false := by simp; omega
          have HF : Hid (y.hit c a = false) := Lib.hid (by unfold Cl.hit; simp [hya])
          clear hyc hya
          go_wp2
          exact ⟨⟨j + 1, by omega, by go_num, Lib.hid (fun i hi => by
            rcases Nat.lt_or_ge i j with h1 | h1
            · exact HN.out i h1
            · obtain rfl : i = j := by omega
              rw [HY.out]; exact HF.out), trivial⟩, by simp [intOf]; omega⟩
      · have q1 : (y.c == c) = false := by simpa using hyc
        have HF : Hid (y.hit c a = false) := Lib.hid (by unfold Cl.hit; simp [hyc])
        clear hyc
        go_wp2
        exact ⟨⟨j + 1, by omega, by go_num, Lib.hid (fun i hi => by
          rcases Nat.lt_or_ge i j with h1 | h1
          · exact HN.out i h1
          · obtain rfl : i = j := by omega
            rw [HY.out]; exact HF.out), trivial⟩, by simp [intOf]; omega⟩
    · have hjl : j = l.length := by omega
      have HF : Hid (fd l c a = -1) := Lib.hid (fd_miss fun i hi => HN.out i (by omega))
      rw [hjl]
      go_wp2
      go_ret
      exact ⟨by rw [HF.out]; rfl, rfl⟩
end Go.Proofs.Ytjcbhomfggjmhaa.Mm
