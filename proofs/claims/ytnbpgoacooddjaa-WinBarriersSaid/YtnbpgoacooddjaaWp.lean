import Derived.Test.YtnbpgoacooddjaaSfH
import Derived.Test.YtnbpgoacooddjaaSfCs
import Derived.Test.YtnbpgoacooddjaaFIoA
import Derived.Test.YtnbpgoacooddjaaWb
namespace Go.Proofs.Ytnbpgoacooddjaa
open Go.ChangeShapes Go.WideShapes Go.ChangeAt Go.RowKit
open Fr (puts mem_puts)
set_option linter.unusedVariables false
theorem wi_t (v lo hi : Int) : Fr.wi v lo hi = true ↔ lo ≤ v ∧ v ≤ hi := by unfold Fr.wi; exact decide_eq_true_iff
theorem spOr_eq (n : Int) : Fr.spOr n = spR n := rfl
theorem zbd : (0 : Int) ≤ 0 ∧ (0 : Int) < 18446744073709551616 := by decide
theorem wrap_lo (i : Int) : 0 ≤ IntKind.u64.wrap i := by rw [IntKind.wrap_u64]; omega
theorem wrap_hi (i : Int) : IntKind.u64.wrap i < 18446744073709551616 := by rw [IntKind.wrap_u64]; omega
theorem Rg.within_get {r : Rg} (h : r.within) (k : Int) : 0 ≤ r.get k ∧ r.get k < 18446744073709551616 := by
  unfold Rg.get
  split
  · exact h.1 _ (by omega)
  · split
    · exact h.2
    · omega
theorem Rg.within_set {r : Rg} (h : r.within) (t v : Int) (h1 : 0 ≤ v) (h2 : v < 18446744073709551616) : (r.set t v).within := by
  unfold Rg.set
  split
  · refine ⟨fun i hi => ?_, h.2⟩
    simp only [Rg.setX]
    split
    · exact ⟨h1, h2⟩
    · exact h.1 i hi
  · split
    · exact ⟨h.1, h1, h2⟩
    · exact h
theorem getF_bd {r : Rg} (h : r.within) (k : Int) : 0 ≤ getF r k ∧ getF r k < 18446744073709551616 := by
  unfold getF
  split
  · unfold Rg.fl
    (repeat' split) <;> omega
  · exact Rg.within_get h k
theorem setF_bd {r : Rg} (h : r.within) (k v : Int) (h1 : 0 ≤ v) (h2 : v < 18446744073709551616) : (setF r k v).within := by
  unfold setF
  split
  · exact h
  · exact Rg.within_set h k v h1 h2
theorem valS_bd (f : WI → InsF) (F : Nat → WI) (base : Rg) (hb : base.within) (reg : Int) : ∀ i, (∀ j, j < i → (F j).r.within) → ∀ v, valS f F base reg i = some v → 0 ≤ v ∧ v < 18446744073709551616
  | 0, _, v, h => by injection h with h; subst h; exact getF_bd hb reg
  | i + 1, hF, v, h => by
    unfold valS at h
    split at h
    · split at h
      · injection h with h; subst h; exact getF_bd (hF i (by omega)) reg
      · cases h
    · exact valS_bd f F base hb reg i (fun j hj => hF j (by omega)) v h
theorem valW_bd (f : WI → InsF) (F : Nat → WI) (base : Rg) (hb : base.within) (i : Nat) (reg : Int) (hF : ∀ j, j < i → (F j).r.within) (v : Int) (h : valW f F base i reg = some v) : 0 ≤ v ∧ v < 18446744073709551616 := by
  unfold valW at h
  split at h
  · injection h with h; subst h; omega
  · exact valS_bd f F base hb reg i hF v h
theorem inpS_bd (f : WI → InsF) (F : Nat → WI) (base : Rg) (hb : base.within) (i : Nat) (hF : ∀ j, j < i → (F j).r.within) : ∀ (L : List Int) (r r' : Rg), r.within → inpS f F base i L r = some r' → r'.within
  | [], r, r', hr, h => by injection h with h; subst h; exact hr
  | x :: L, r, r', hr, h => by
    unfold inpS at h
    split at h
    · rename_i v hv
      have := valW_bd f F base hb i x hF v hv
      exact inpS_bd f F base hb i hF L _ r' (setF_bd hr x v this.1 this.2) h
    · cases h
/-- What is known of an instruction. -/
structure GoodI (o d n m a c i : Int) (f : InsF) : Prop where
  ck : ∀ w, Calls Try.prog 31 #[.agg #[.int .i64 o, .int .i64 d, .int .i64 n, .int .i64 m, .int .i64 a, .int .i64 c, .int .i64 i]] w fun e w' => e = .returned (.int .i64 f.ck) ∧ Below w.heap.size w w'
  inl : ∃ T, f.inL = puts T ∧ T.length ≤ 6 ∧ ∀ w, Calls Try.prog 71 #[.agg #[.int .i64 o, .int .i64 d, .int .i64 n, .int .i64 m, .int .i64 a, .int .i64 c, .int .i64 i]] w (Fr.RowP T w)
  outl : ∃ T, f.outL = puts T ∧ T.length ≤ 6 ∧ (∀ x ∈ T, 0 ≤ x ∧ x ≤ 33) ∧ ∀ w, Calls Try.prog 149 #[.agg #[.int .i64 o, .int .i64 d, .int .i64 n, .int .i64 m, .int .i64 a, .int .i64 c, .int .i64 i]] w (Fr.RowP T w)
  ad : tchs o = true → f.ck = 0 → ∀ pc r w, Calls Try.prog 163 #[.agg #[.int .i64 o, .int .i64 d, .int .i64 n, .int .i64 m, .int .i64 a, .int .i64 c, .int .i64 i], .int .u64 pc, .agg r.arr] w fun e w' => ∃ nx da, e = .returned (.agg (efA r nx (f.ad pc r) da true)) ∧ Below w.heap.size w w'
  adb : ∀ pc r, r.within → 0 ≤ f.ad pc r ∧ f.ad pc r < 18446744073709551616
/-- Of three ops what it is. -/
structure SpecI (o d n m a c i : Int) (f : InsF) : Prop where
  s28 : o = 28 → Fr.ok_28 d n m a c i = true → f = ⟨0, puts [Fr.spOr n], puts [d], fun pc r => IntKind.u64.wrap (r.get (spR n) + IntKind.u64.wrap i)⟩
  s29 : o = 29 → Fr.ok_29 d n m a c i = true → f = ⟨0, puts [d, Fr.spOr n], puts [], fun pc r => IntKind.u64.wrap (r.get (spR n) + IntKind.u64.wrap i)⟩
  s34 : o = 34 → Fr.ok_34 d n m a c i = true → f = ⟨0, puts [d, Fr.spOr n], puts [], fun pc r => r.get (spR n)⟩
theorem ck0 {o d n m a c i : Int} {b : Bool} (h : ∀ w, Calls Try.prog 31 #[.agg #[.int .i64 o, .int .i64 d, .int .i64 n, .int .i64 m, .int .i64 a, .int .i64 c, .int .i64 i]] w fun e w' => e = .returned (.int .i64 (Fr.er b)) ∧ Below w.heap.size w w') (hb : b = true) :
    ∀ w, Calls Try.prog 31 #[.agg #[.int .i64 o, .int .i64 d, .int .i64 n, .int .i64 m, .int .i64 a, .int .i64 c, .int .i64 i]] w fun e w' => e = .returned (.int .i64 0) ∧ Below w.heap.size w w' := by
  subst hb
  exact h
theorem ck1 {o d n m a c i : Int} {b : Bool} (h : ∀ w, Calls Try.prog 31 #[.agg #[.int .i64 o, .int .i64 d, .int .i64 n, .int .i64 m, .int .i64 a, .int .i64 c, .int .i64 i]] w fun e w' => e = .returned (.int .i64 (Fr.er b)) ∧ Below w.heap.size w w') (hb : b = false) :
    ∀ w, Calls Try.prog 31 #[.agg #[.int .i64 o, .int .i64 d, .int .i64 n, .int .i64 m, .int .i64 a, .int .i64 c, .int .i64 i]] w fun e w' => e = .returned (.int .i64 1) ∧ Below w.heap.size w w' := by
  subst hb
  exact h
def noF : InsF := ⟨1, [], [], fun _ _ => 0⟩
/-- An instruction that may not be. -/
theorem good_no (o d n m a c i : Int) (h : ∀ w, Calls Try.prog 31 #[.agg #[.int .i64 o, .int .i64 d, .int .i64 n, .int .i64 m, .int .i64 a, .int .i64 c, .int .i64 i]] w fun e w' => e = .returned (.int .i64 1) ∧ Below w.heap.size w w') : GoodI o d n m a c i noF where
  ck := h
  inl := ⟨[], rfl, by simp, fun w => Fr.in_make o d n m a c i [] w fun w => (Fr.registers_nil o d n m a c i 152 w h).mono fun e w' hh => ⟨_, hh.1, World.ownsRow_nil _ _ _ _, fun _ => rfl, hh.2⟩⟩
  outl := ⟨[], rfl, by simp, by simp, fun w => Fr.out_make o d n m a c i [] w fun w => (Fr.registers_nil o d n m a c i 186 w h).mono fun e w' hh => ⟨_, hh.1, World.ownsRow_nil _ _ _ _, fun _ => rfl, hh.2⟩⟩
  ad := fun _ h0 => by simp [noF] at h0
  adb := fun _ _ _ => by simp [noF]
def AnyI (o d n m a c i : Int) : Prop := ∃ f, GoodI o d n m a c i f ∧ SpecI o d n m a c i f
theorem anyI_0 (d n m a c i : Int) : AnyI 0 d n m a c i := by
  cases hok : Fr.ok_0 d n m a c i
  · exact ⟨noF, good_no 0 d n m a c i (ck1 (Fr.check_0 d n m a c i) hok), ⟨(fun h => absurd h (by decide)), (fun h => absurd h (by decide)), (fun h => absurd h (by decide))⟩⟩
  · have hck := ck0 (Fr.check_0 d n m a c i) hok
    have hO : ∀ x ∈ ([] : List Int), 0 ≤ x ∧ x ≤ 33 := by simp
    exact ⟨⟨0, puts [], puts [], fun _ _ => 0⟩, ⟨hck, ⟨_, rfl, by simp, fun w => Fr.in_0 d n m a c i w hok⟩, ⟨_, rfl, by simp, hO, fun w => Fr.out_0 d n m a c i w hok⟩, fun h _ => absurd h (by decide), fun _ _ _ => zbd⟩, ⟨(fun h => absurd h (by decide)), (fun h => absurd h (by decide)), (fun h => absurd h (by decide))⟩⟩
theorem anyI_1 (d n m a c i : Int) : AnyI 1 d n m a c i := by
  cases hok : Fr.ok_1 d n m a c i
  · exact ⟨noF, good_no 1 d n m a c i (ck1 (Fr.check_1 d n m a c i) hok), ⟨(fun h => absurd h (by decide)), (fun h => absurd h (by decide)), (fun h => absurd h (by decide))⟩⟩
  · have hck := ck0 (Fr.check_1 d n m a c i) hok
    have hO : ∀ x ∈ ([] : List Int), 0 ≤ x ∧ x ≤ 33 := by simp
    exact ⟨⟨0, puts [], puts [], fun _ _ => 0⟩, ⟨hck, ⟨_, rfl, by simp, fun w => Fr.in_1 d n m a c i w hok⟩, ⟨_, rfl, by simp, hO, fun w => Fr.out_1 d n m a c i w hok⟩, fun h _ => absurd h (by decide), fun _ _ _ => zbd⟩, ⟨(fun h => absurd h (by decide)), (fun h => absurd h (by decide)), (fun h => absurd h (by decide))⟩⟩
theorem anyI_2 (d n m a c i : Int) : AnyI 2 d n m a c i := by
  cases hok : Fr.ok_2 d n m a c i
  · exact ⟨noF, good_no 2 d n m a c i (ck1 (Fr.check_2 d n m a c i) hok), ⟨(fun h => absurd h (by decide)), (fun h => absurd h (by decide)), (fun h => absurd h (by decide))⟩⟩
  · have hck := ck0 (Fr.check_2 d n m a c i) hok
    have hO : ∀ x ∈ ([d] : List Int), 0 ≤ x ∧ x ≤ 33 := by
      simp only [Fr.ok_2, Bool.and_eq_true, wi_t, beq_iff_eq] at hok
      intro x hx
      simp only [List.mem_cons, List.not_mem_nil, or_false] at hx
      (try split at hx) <;> omega
    exact ⟨⟨0, puts [], puts [d], fun _ _ => 0⟩, ⟨hck, ⟨_, rfl, by simp, fun w => Fr.in_2 d n m a c i w hok⟩, ⟨_, rfl, by simp, hO, fun w => Fr.out_2 d n m a c i w hok⟩, fun h _ => absurd h (by decide), fun _ _ _ => zbd⟩, ⟨(fun h => absurd h (by decide)), (fun h => absurd h (by decide)), (fun h => absurd h (by decide))⟩⟩
theorem anyI_3 (d n m a c i : Int) : AnyI 3 d n m a c i := by
  cases hok : Fr.ok_3 d n m a c i
  · exact ⟨noF, good_no 3 d n m a c i (ck1 (Fr.check_3 d n m a c i) hok), ⟨(fun h => absurd h (by decide)), (fun h => absurd h (by decide)), (fun h => absurd h (by decide))⟩⟩
  · have hck := ck0 (Fr.check_3 d n m a c i) hok
    have hO : ∀ x ∈ ([d] : List Int), 0 ≤ x ∧ x ≤ 33 := by
      simp only [Fr.ok_3, Bool.and_eq_true, wi_t, beq_iff_eq] at hok
      intro x hx
      simp only [List.mem_cons, List.not_mem_nil, or_false] at hx
      (try split at hx) <;> omega
    exact ⟨⟨0, puts [d], puts [d], fun _ _ => 0⟩, ⟨hck, ⟨_, rfl, by simp, fun w => Fr.in_3 d n m a c i w hok⟩, ⟨_, rfl, by simp, hO, fun w => Fr.out_3 d n m a c i w hok⟩, fun h _ => absurd h (by decide), fun _ _ _ => zbd⟩, ⟨(fun h => absurd h (by decide)), (fun h => absurd h (by decide)), (fun h => absurd h (by decide))⟩⟩
theorem anyI_4 (d n m a c i : Int) : AnyI 4 d n m a c i := by
  cases hok : Fr.ok_4 d n m a c i
  · exact ⟨noF, good_no 4 d n m a c i (ck1 (Fr.check_4 d n m a c i) hok), ⟨(fun h => absurd h (by decide)), (fun h => absurd h (by decide)), (fun h => absurd h (by decide))⟩⟩
  · have hck := ck0 (Fr.check_4 d n m a c i) hok
    have hO : ∀ x ∈ ([(Fr.spOr d)] : List Int), 0 ≤ x ∧ x ≤ 33 := by
      simp only [Fr.ok_4, Bool.and_eq_true, wi_t, beq_iff_eq] at hok
      intro x hx
      simp only [List.mem_cons, List.not_mem_nil, or_false, Fr.spOr] at hx
      (try split at hx) <;> omega
    exact ⟨⟨0, puts [(Fr.spOr n)], puts [(Fr.spOr d)], fun _ _ => 0⟩, ⟨hck, ⟨_, rfl, by simp, fun w => Fr.in_4 d n m a c i w hok⟩, ⟨_, rfl, by simp, hO, fun w => Fr.out_4 d n m a c i w hok⟩, fun h _ => absurd h (by decide), fun _ _ _ => zbd⟩, ⟨(fun h => absurd h (by decide)), (fun h => absurd h (by decide)), (fun h => absurd h (by decide))⟩⟩
theorem anyI_5 (d n m a c i : Int) : AnyI 5 d n m a c i := by
  cases hok : Fr.ok_5 d n m a c i
  · exact ⟨noF, good_no 5 d n m a c i (ck1 (Fr.check_5 d n m a c i) hok), ⟨(fun h => absurd h (by decide)), (fun h => absurd h (by decide)), (fun h => absurd h (by decide))⟩⟩
  · have hck := ck0 (Fr.check_5 d n m a c i) hok
    have hO : ∀ x ∈ ([(Fr.spOr d)] : List Int), 0 ≤ x ∧ x ≤ 33 := by
      simp only [Fr.ok_5, Bool.and_eq_true, wi_t, beq_iff_eq] at hok
      intro x hx
      simp only [List.mem_cons, List.not_mem_nil, or_false, Fr.spOr] at hx
      (try split at hx) <;> omega
    exact ⟨⟨0, puts [(Fr.spOr n)], puts [(Fr.spOr d)], fun _ _ => 0⟩, ⟨hck, ⟨_, rfl, by simp, fun w => Fr.in_5 d n m a c i w hok⟩, ⟨_, rfl, by simp, hO, fun w => Fr.out_5 d n m a c i w hok⟩, fun h _ => absurd h (by decide), fun _ _ _ => zbd⟩, ⟨(fun h => absurd h (by decide)), (fun h => absurd h (by decide)), (fun h => absurd h (by decide))⟩⟩
theorem anyI_6 (d n m a c i : Int) : AnyI 6 d n m a c i := by
  cases hok : Fr.ok_6 d n m a c i
  · exact ⟨noF, good_no 6 d n m a c i (ck1 (Fr.check_6 d n m a c i) hok), ⟨(fun h => absurd h (by decide)), (fun h => absurd h (by decide)), (fun h => absurd h (by decide))⟩⟩
  · have hck := ck0 (Fr.check_6 d n m a c i) hok
    have hO : ∀ x ∈ ([d, 33] : List Int), 0 ≤ x ∧ x ≤ 33 := by
      simp only [Fr.ok_6, Bool.and_eq_true, wi_t, beq_iff_eq] at hok
      intro x hx
      simp only [List.mem_cons, List.not_mem_nil, or_false] at hx
      rcases hx with hx | hx <;> (try split at hx) <;> omega
    exact ⟨⟨0, puts [(Fr.spOr n)], puts [d, 33], fun _ _ => 0⟩, ⟨hck, ⟨_, rfl, by simp, fun w => Fr.in_6 d n m a c i w hok⟩, ⟨_, rfl, by simp, hO, fun w => Fr.out_6 d n m a c i w hok⟩, fun h _ => absurd h (by decide), fun _ _ _ => zbd⟩, ⟨(fun h => absurd h (by decide)), (fun h => absurd h (by decide)), (fun h => absurd h (by decide))⟩⟩
theorem anyI_7 (d n m a c i : Int) : AnyI 7 d n m a c i := by
  cases hok : Fr.ok_7 d n m a c i
  · exact ⟨noF, good_no 7 d n m a c i (ck1 (Fr.check_7 d n m a c i) hok), ⟨(fun h => absurd h (by decide)), (fun h => absurd h (by decide)), (fun h => absurd h (by decide))⟩⟩
  · have hck := ck0 (Fr.check_7 d n m a c i) hok
    have hO : ∀ x ∈ ([d] : List Int), 0 ≤ x ∧ x ≤ 33 := by
      simp only [Fr.ok_7, Bool.and_eq_true, wi_t, beq_iff_eq] at hok
      intro x hx
      simp only [List.mem_cons, List.not_mem_nil, or_false] at hx
      (try split at hx) <;> omega
    exact ⟨⟨0, puts [n, m], puts [d], fun _ _ => 0⟩, ⟨hck, ⟨_, rfl, by simp, fun w => Fr.in_7 d n m a c i w hok⟩, ⟨_, rfl, by simp, hO, fun w => Fr.out_7 d n m a c i w hok⟩, fun h _ => absurd h (by decide), fun _ _ _ => zbd⟩, ⟨(fun h => absurd h (by decide)), (fun h => absurd h (by decide)), (fun h => absurd h (by decide))⟩⟩
theorem anyI_8 (d n m a c i : Int) : AnyI 8 d n m a c i := by
  cases hok : Fr.ok_8 d n m a c i
  · exact ⟨noF, good_no 8 d n m a c i (ck1 (Fr.check_8 d n m a c i) hok), ⟨(fun h => absurd h (by decide)), (fun h => absurd h (by decide)), (fun h => absurd h (by decide))⟩⟩
  · have hck := ck0 (Fr.check_8 d n m a c i) hok
    have hO : ∀ x ∈ ([d] : List Int), 0 ≤ x ∧ x ≤ 33 := by
      simp only [Fr.ok_8, Bool.and_eq_true, wi_t, beq_iff_eq] at hok
      intro x hx
      simp only [List.mem_cons, List.not_mem_nil, or_false] at hx
      (try split at hx) <;> omega
    exact ⟨⟨0, puts [n, m], puts [d], fun _ _ => 0⟩, ⟨hck, ⟨_, rfl, by simp, fun w => Fr.in_8 d n m a c i w hok⟩, ⟨_, rfl, by simp, hO, fun w => Fr.out_8 d n m a c i w hok⟩, fun h _ => absurd h (by decide), fun _ _ _ => zbd⟩, ⟨(fun h => absurd h (by decide)), (fun h => absurd h (by decide)), (fun h => absurd h (by decide))⟩⟩
theorem anyI_9 (d n m a c i : Int) : AnyI 9 d n m a c i := by
  cases hok : Fr.ok_9 d n m a c i
  · exact ⟨noF, good_no 9 d n m a c i (ck1 (Fr.check_9 d n m a c i) hok), ⟨(fun h => absurd h (by decide)), (fun h => absurd h (by decide)), (fun h => absurd h (by decide))⟩⟩
  · have hck := ck0 (Fr.check_9 d n m a c i) hok
    have hO : ∀ x ∈ ([d, 33] : List Int), 0 ≤ x ∧ x ≤ 33 := by
      simp only [Fr.ok_9, Bool.and_eq_true, wi_t, beq_iff_eq] at hok
      intro x hx
      simp only [List.mem_cons, List.not_mem_nil, or_false] at hx
      rcases hx with hx | hx <;> (try split at hx) <;> omega
    exact ⟨⟨0, puts [n, m], puts [d, 33], fun _ _ => 0⟩, ⟨hck, ⟨_, rfl, by simp, fun w => Fr.in_9 d n m a c i w hok⟩, ⟨_, rfl, by simp, hO, fun w => Fr.out_9 d n m a c i w hok⟩, fun h _ => absurd h (by decide), fun _ _ _ => zbd⟩, ⟨(fun h => absurd h (by decide)), (fun h => absurd h (by decide)), (fun h => absurd h (by decide))⟩⟩
theorem anyI_10 (d n m a c i : Int) : AnyI 10 d n m a c i := by
  cases hok : Fr.ok_10 d n m a c i
  · exact ⟨noF, good_no 10 d n m a c i (ck1 (Fr.check_10 d n m a c i) hok), ⟨(fun h => absurd h (by decide)), (fun h => absurd h (by decide)), (fun h => absurd h (by decide))⟩⟩
  · have hck := ck0 (Fr.check_10 d n m a c i) hok
    have hO : ∀ x ∈ ([d] : List Int), 0 ≤ x ∧ x ≤ 33 := by
      simp only [Fr.ok_10, Bool.and_eq_true, wi_t, beq_iff_eq] at hok
      intro x hx
      simp only [List.mem_cons, List.not_mem_nil, or_false] at hx
      (try split at hx) <;> omega
    exact ⟨⟨0, puts [n, m], puts [d], fun _ _ => 0⟩, ⟨hck, ⟨_, rfl, by simp, fun w => Fr.in_10 d n m a c i w hok⟩, ⟨_, rfl, by simp, hO, fun w => Fr.out_10 d n m a c i w hok⟩, fun h _ => absurd h (by decide), fun _ _ _ => zbd⟩, ⟨(fun h => absurd h (by decide)), (fun h => absurd h (by decide)), (fun h => absurd h (by decide))⟩⟩
theorem anyI_11 (d n m a c i : Int) : AnyI 11 d n m a c i := by
  cases hok : Fr.ok_11 d n m a c i
  · exact ⟨noF, good_no 11 d n m a c i (ck1 (Fr.check_11 d n m a c i) hok), ⟨(fun h => absurd h (by decide)), (fun h => absurd h (by decide)), (fun h => absurd h (by decide))⟩⟩
  · have hck := ck0 (Fr.check_11 d n m a c i) hok
    have hO : ∀ x ∈ ([d] : List Int), 0 ≤ x ∧ x ≤ 33 := by
      simp only [Fr.ok_11, Bool.and_eq_true, wi_t, beq_iff_eq] at hok
      intro x hx
      simp only [List.mem_cons, List.not_mem_nil, or_false] at hx
      (try split at hx) <;> omega
    exact ⟨⟨0, puts [n, m], puts [d], fun _ _ => 0⟩, ⟨hck, ⟨_, rfl, by simp, fun w => Fr.in_11 d n m a c i w hok⟩, ⟨_, rfl, by simp, hO, fun w => Fr.out_11 d n m a c i w hok⟩, fun h _ => absurd h (by decide), fun _ _ _ => zbd⟩, ⟨(fun h => absurd h (by decide)), (fun h => absurd h (by decide)), (fun h => absurd h (by decide))⟩⟩
theorem anyI_12 (d n m a c i : Int) : AnyI 12 d n m a c i := by
  cases hok : Fr.ok_12 d n m a c i
  · exact ⟨noF, good_no 12 d n m a c i (ck1 (Fr.check_12 d n m a c i) hok), ⟨(fun h => absurd h (by decide)), (fun h => absurd h (by decide)), (fun h => absurd h (by decide))⟩⟩
  · have hck := ck0 (Fr.check_12 d n m a c i) hok
    have hO : ∀ x ∈ ([d] : List Int), 0 ≤ x ∧ x ≤ 33 := by
      simp only [Fr.ok_12, Bool.and_eq_true, wi_t, beq_iff_eq] at hok
      intro x hx
      simp only [List.mem_cons, List.not_mem_nil, or_false] at hx
      (try split at hx) <;> omega
    exact ⟨⟨0, puts [n, m], puts [d], fun _ _ => 0⟩, ⟨hck, ⟨_, rfl, by simp, fun w => Fr.in_12 d n m a c i w hok⟩, ⟨_, rfl, by simp, hO, fun w => Fr.out_12 d n m a c i w hok⟩, fun h _ => absurd h (by decide), fun _ _ _ => zbd⟩, ⟨(fun h => absurd h (by decide)), (fun h => absurd h (by decide)), (fun h => absurd h (by decide))⟩⟩
theorem anyI_13 (d n m a c i : Int) : AnyI 13 d n m a c i := by
  cases hok : Fr.ok_13 d n m a c i
  · exact ⟨noF, good_no 13 d n m a c i (ck1 (Fr.check_13 d n m a c i) hok), ⟨(fun h => absurd h (by decide)), (fun h => absurd h (by decide)), (fun h => absurd h (by decide))⟩⟩
  · have hck := ck0 (Fr.check_13 d n m a c i) hok
    have hO : ∀ x ∈ ([d] : List Int), 0 ≤ x ∧ x ≤ 33 := by
      simp only [Fr.ok_13, Bool.and_eq_true, wi_t, beq_iff_eq] at hok
      intro x hx
      simp only [List.mem_cons, List.not_mem_nil, or_false] at hx
      (try split at hx) <;> omega
    exact ⟨⟨0, puts [n, m, a], puts [d], fun _ _ => 0⟩, ⟨hck, ⟨_, rfl, by simp, fun w => Fr.in_13 d n m a c i w hok⟩, ⟨_, rfl, by simp, hO, fun w => Fr.out_13 d n m a c i w hok⟩, fun h _ => absurd h (by decide), fun _ _ _ => zbd⟩, ⟨(fun h => absurd h (by decide)), (fun h => absurd h (by decide)), (fun h => absurd h (by decide))⟩⟩
theorem anyI_14 (d n m a c i : Int) : AnyI 14 d n m a c i := by
  cases hok : Fr.ok_14 d n m a c i
  · exact ⟨noF, good_no 14 d n m a c i (ck1 (Fr.check_14 d n m a c i) hok), ⟨(fun h => absurd h (by decide)), (fun h => absurd h (by decide)), (fun h => absurd h (by decide))⟩⟩
  · have hck := ck0 (Fr.check_14 d n m a c i) hok
    have hO : ∀ x ∈ ([d] : List Int), 0 ≤ x ∧ x ≤ 33 := by
      simp only [Fr.ok_14, Bool.and_eq_true, wi_t, beq_iff_eq] at hok
      intro x hx
      simp only [List.mem_cons, List.not_mem_nil, or_false] at hx
      (try split at hx) <;> omega
    exact ⟨⟨0, puts [n, m, a], puts [d], fun _ _ => 0⟩, ⟨hck, ⟨_, rfl, by simp, fun w => Fr.in_14 d n m a c i w hok⟩, ⟨_, rfl, by simp, hO, fun w => Fr.out_14 d n m a c i w hok⟩, fun h _ => absurd h (by decide), fun _ _ _ => zbd⟩, ⟨(fun h => absurd h (by decide)), (fun h => absurd h (by decide)), (fun h => absurd h (by decide))⟩⟩
theorem anyI_15 (d n m a c i : Int) : AnyI 15 d n m a c i := by
  cases hok : Fr.ok_15 d n m a c i
  · exact ⟨noF, good_no 15 d n m a c i (ck1 (Fr.check_15 d n m a c i) hok), ⟨(fun h => absurd h (by decide)), (fun h => absurd h (by decide)), (fun h => absurd h (by decide))⟩⟩
  · have hck := ck0 (Fr.check_15 d n m a c i) hok
    have hO : ∀ x ∈ ([d] : List Int), 0 ≤ x ∧ x ≤ 33 := by
      simp only [Fr.ok_15, Bool.and_eq_true, wi_t, beq_iff_eq] at hok
      intro x hx
      simp only [List.mem_cons, List.not_mem_nil, or_false] at hx
      (try split at hx) <;> omega
    exact ⟨⟨0, puts [n, m], puts [d], fun _ _ => 0⟩, ⟨hck, ⟨_, rfl, by simp, fun w => Fr.in_15 d n m a c i w hok⟩, ⟨_, rfl, by simp, hO, fun w => Fr.out_15 d n m a c i w hok⟩, fun h _ => absurd h (by decide), fun _ _ _ => zbd⟩, ⟨(fun h => absurd h (by decide)), (fun h => absurd h (by decide)), (fun h => absurd h (by decide))⟩⟩
theorem anyI_16 (d n m a c i : Int) : AnyI 16 d n m a c i := by
  cases hok : Fr.ok_16 d n m a c i
  · exact ⟨noF, good_no 16 d n m a c i (ck1 (Fr.check_16 d n m a c i) hok), ⟨(fun h => absurd h (by decide)), (fun h => absurd h (by decide)), (fun h => absurd h (by decide))⟩⟩
  · have hck := ck0 (Fr.check_16 d n m a c i) hok
    have hO : ∀ x ∈ ([d] : List Int), 0 ≤ x ∧ x ≤ 33 := by
      simp only [Fr.ok_16, Bool.and_eq_true, wi_t, beq_iff_eq] at hok
      intro x hx
      simp only [List.mem_cons, List.not_mem_nil, or_false] at hx
      (try split at hx) <;> omega
    exact ⟨⟨0, puts [n, m], puts [d], fun _ _ => 0⟩, ⟨hck, ⟨_, rfl, by simp, fun w => Fr.in_16 d n m a c i w hok⟩, ⟨_, rfl, by simp, hO, fun w => Fr.out_16 d n m a c i w hok⟩, fun h _ => absurd h (by decide), fun _ _ _ => zbd⟩, ⟨(fun h => absurd h (by decide)), (fun h => absurd h (by decide)), (fun h => absurd h (by decide))⟩⟩
theorem anyI_17 (d n m a c i : Int) : AnyI 17 d n m a c i := by
  cases hok : Fr.ok_17 d n m a c i
  · exact ⟨noF, good_no 17 d n m a c i (ck1 (Fr.check_17 d n m a c i) hok), ⟨(fun h => absurd h (by decide)), (fun h => absurd h (by decide)), (fun h => absurd h (by decide))⟩⟩
  · have hck := ck0 (Fr.check_17 d n m a c i) hok
    have hO : ∀ x ∈ ([d] : List Int), 0 ≤ x ∧ x ≤ 33 := by
      simp only [Fr.ok_17, Bool.and_eq_true, wi_t, beq_iff_eq] at hok
      intro x hx
      simp only [List.mem_cons, List.not_mem_nil, or_false] at hx
      (try split at hx) <;> omega
    exact ⟨⟨0, puts [n, m], puts [d], fun _ _ => 0⟩, ⟨hck, ⟨_, rfl, by simp, fun w => Fr.in_17 d n m a c i w hok⟩, ⟨_, rfl, by simp, hO, fun w => Fr.out_17 d n m a c i w hok⟩, fun h _ => absurd h (by decide), fun _ _ _ => zbd⟩, ⟨(fun h => absurd h (by decide)), (fun h => absurd h (by decide)), (fun h => absurd h (by decide))⟩⟩
theorem anyI_18 (d n m a c i : Int) : AnyI 18 d n m a c i := by
  cases hok : Fr.ok_18 d n m a c i
  · exact ⟨noF, good_no 18 d n m a c i (ck1 (Fr.check_18 d n m a c i) hok), ⟨(fun h => absurd h (by decide)), (fun h => absurd h (by decide)), (fun h => absurd h (by decide))⟩⟩
  · have hck := ck0 (Fr.check_18 d n m a c i) hok
    have hO : ∀ x ∈ ([d] : List Int), 0 ≤ x ∧ x ≤ 33 := by
      simp only [Fr.ok_18, Bool.and_eq_true, wi_t, beq_iff_eq] at hok
      intro x hx
      simp only [List.mem_cons, List.not_mem_nil, or_false] at hx
      (try split at hx) <;> omega
    exact ⟨⟨0, puts [n, m], puts [d], fun _ _ => 0⟩, ⟨hck, ⟨_, rfl, by simp, fun w => Fr.in_18 d n m a c i w hok⟩, ⟨_, rfl, by simp, hO, fun w => Fr.out_18 d n m a c i w hok⟩, fun h _ => absurd h (by decide), fun _ _ _ => zbd⟩, ⟨(fun h => absurd h (by decide)), (fun h => absurd h (by decide)), (fun h => absurd h (by decide))⟩⟩
theorem anyI_19 (d n m a c i : Int) : AnyI 19 d n m a c i := by
  cases hok : Fr.ok_19 d n m a c i
  · exact ⟨noF, good_no 19 d n m a c i (ck1 (Fr.check_19 d n m a c i) hok), ⟨(fun h => absurd h (by decide)), (fun h => absurd h (by decide)), (fun h => absurd h (by decide))⟩⟩
  · have hck := ck0 (Fr.check_19 d n m a c i) hok
    have hO : ∀ x ∈ ([d] : List Int), 0 ≤ x ∧ x ≤ 33 := by
      simp only [Fr.ok_19, Bool.and_eq_true, wi_t, beq_iff_eq] at hok
      intro x hx
      simp only [List.mem_cons, List.not_mem_nil, or_false] at hx
      (try split at hx) <;> omega
    exact ⟨⟨0, puts [n, m, 33], puts [d], fun _ _ => 0⟩, ⟨hck, ⟨_, rfl, by simp, fun w => Fr.in_19 d n m a c i w hok⟩, ⟨_, rfl, by simp, hO, fun w => Fr.out_19 d n m a c i w hok⟩, fun h _ => absurd h (by decide), fun _ _ _ => zbd⟩, ⟨(fun h => absurd h (by decide)), (fun h => absurd h (by decide)), (fun h => absurd h (by decide))⟩⟩
theorem anyI_20 (d n m a c i : Int) : AnyI 20 d n m a c i := by
  cases hok : Fr.ok_20 d n m a c i
  · exact ⟨noF, good_no 20 d n m a c i (ck1 (Fr.check_20 d n m a c i) hok), ⟨(fun h => absurd h (by decide)), (fun h => absurd h (by decide)), (fun h => absurd h (by decide))⟩⟩
  · have hck := ck0 (Fr.check_20 d n m a c i) hok
    have hO : ∀ x ∈ ([] : List Int), 0 ≤ x ∧ x ≤ 33 := by simp
    exact ⟨⟨0, puts [], puts [], fun _ _ => 0⟩, ⟨hck, ⟨_, rfl, by simp, fun w => Fr.in_20 d n m a c i w hok⟩, ⟨_, rfl, by simp, hO, fun w => Fr.out_20 d n m a c i w hok⟩, fun h _ => absurd h (by decide), fun _ _ _ => zbd⟩, ⟨(fun h => absurd h (by decide)), (fun h => absurd h (by decide)), (fun h => absurd h (by decide))⟩⟩
theorem anyI_21 (d n m a c i : Int) : AnyI 21 d n m a c i := by
  cases hok : Fr.ok_21 d n m a c i
  · exact ⟨noF, good_no 21 d n m a c i (ck1 (Fr.check_21 d n m a c i) hok), ⟨(fun h => absurd h (by decide)), (fun h => absurd h (by decide)), (fun h => absurd h (by decide))⟩⟩
  · have hck := ck0 (Fr.check_21 d n m a c i) hok
    have hO : ∀ x ∈ ([] : List Int), 0 ≤ x ∧ x ≤ 33 := by simp
    exact ⟨⟨0, puts [33], puts [], fun _ _ => 0⟩, ⟨hck, ⟨_, rfl, by simp, fun w => Fr.in_21 d n m a c i w hok⟩, ⟨_, rfl, by simp, hO, fun w => Fr.out_21 d n m a c i w hok⟩, fun h _ => absurd h (by decide), fun _ _ _ => zbd⟩, ⟨(fun h => absurd h (by decide)), (fun h => absurd h (by decide)), (fun h => absurd h (by decide))⟩⟩
theorem anyI_22 (d n m a c i : Int) : AnyI 22 d n m a c i := by
  cases hok : Fr.ok_22 d n m a c i
  · exact ⟨noF, good_no 22 d n m a c i (ck1 (Fr.check_22 d n m a c i) hok), ⟨(fun h => absurd h (by decide)), (fun h => absurd h (by decide)), (fun h => absurd h (by decide))⟩⟩
  · have hck := ck0 (Fr.check_22 d n m a c i) hok
    have hO : ∀ x ∈ ([] : List Int), 0 ≤ x ∧ x ≤ 33 := by simp
    exact ⟨⟨0, puts [d], puts [], fun _ _ => 0⟩, ⟨hck, ⟨_, rfl, by simp, fun w => Fr.in_22 d n m a c i w hok⟩, ⟨_, rfl, by simp, hO, fun w => Fr.out_22 d n m a c i w hok⟩, fun h _ => absurd h (by decide), fun _ _ _ => zbd⟩, ⟨(fun h => absurd h (by decide)), (fun h => absurd h (by decide)), (fun h => absurd h (by decide))⟩⟩
theorem anyI_23 (d n m a c i : Int) : AnyI 23 d n m a c i := by
  cases hok : Fr.ok_23 d n m a c i
  · exact ⟨noF, good_no 23 d n m a c i (ck1 (Fr.check_23 d n m a c i) hok), ⟨(fun h => absurd h (by decide)), (fun h => absurd h (by decide)), (fun h => absurd h (by decide))⟩⟩
  · have hck := ck0 (Fr.check_23 d n m a c i) hok
    have hO : ∀ x ∈ ([] : List Int), 0 ≤ x ∧ x ≤ 33 := by simp
    exact ⟨⟨0, puts [d], puts [], fun _ _ => 0⟩, ⟨hck, ⟨_, rfl, by simp, fun w => Fr.in_23 d n m a c i w hok⟩, ⟨_, rfl, by simp, hO, fun w => Fr.out_23 d n m a c i w hok⟩, fun h _ => absurd h (by decide), fun _ _ _ => zbd⟩, ⟨(fun h => absurd h (by decide)), (fun h => absurd h (by decide)), (fun h => absurd h (by decide))⟩⟩
theorem anyI_24 (d n m a c i : Int) : AnyI 24 d n m a c i := by
  cases hok : Fr.ok_24 d n m a c i
  · exact ⟨noF, good_no 24 d n m a c i (ck1 (Fr.check_24 d n m a c i) hok), ⟨(fun h => absurd h (by decide)), (fun h => absurd h (by decide)), (fun h => absurd h (by decide))⟩⟩
  · have hck := ck0 (Fr.check_24 d n m a c i) hok
    have hO : ∀ x ∈ ([30] : List Int), 0 ≤ x ∧ x ≤ 33 := by
      intro x hx
      simp only [List.mem_cons, List.not_mem_nil, or_false] at hx
      omega
    exact ⟨⟨0, puts [], puts [30], fun _ _ => 0⟩, ⟨hck, ⟨_, rfl, by simp, fun w => Fr.in_24 d n m a c i w hok⟩, ⟨_, rfl, by simp, hO, fun w => Fr.out_24 d n m a c i w hok⟩, fun h _ => absurd h (by decide), fun _ _ _ => zbd⟩, ⟨(fun h => absurd h (by decide)), (fun h => absurd h (by decide)), (fun h => absurd h (by decide))⟩⟩
theorem anyI_25 (d n m a c i : Int) : AnyI 25 d n m a c i := by
  cases hok : Fr.ok_25 d n m a c i
  · exact ⟨noF, good_no 25 d n m a c i (ck1 (Fr.check_25 d n m a c i) hok), ⟨(fun h => absurd h (by decide)), (fun h => absurd h (by decide)), (fun h => absurd h (by decide))⟩⟩
  · have hck := ck0 (Fr.check_25 d n m a c i) hok
    have hO : ∀ x ∈ ([] : List Int), 0 ≤ x ∧ x ≤ 33 := by simp
    exact ⟨⟨0, puts [n], puts [], fun _ _ => 0⟩, ⟨hck, ⟨_, rfl, by simp, fun w => Fr.in_25 d n m a c i w hok⟩, ⟨_, rfl, by simp, hO, fun w => Fr.out_25 d n m a c i w hok⟩, fun h _ => absurd h (by decide), fun _ _ _ => zbd⟩, ⟨(fun h => absurd h (by decide)), (fun h => absurd h (by decide)), (fun h => absurd h (by decide))⟩⟩
theorem anyI_26 (d n m a c i : Int) : AnyI 26 d n m a c i := by
  cases hok : Fr.ok_26 d n m a c i
  · exact ⟨noF, good_no 26 d n m a c i (ck1 (Fr.check_26 d n m a c i) hok), ⟨(fun h => absurd h (by decide)), (fun h => absurd h (by decide)), (fun h => absurd h (by decide))⟩⟩
  · have hck := ck0 (Fr.check_26 d n m a c i) hok
    have hO : ∀ x ∈ ([30] : List Int), 0 ≤ x ∧ x ≤ 33 := by
      intro x hx
      simp only [List.mem_cons, List.not_mem_nil, or_false] at hx
      omega
    exact ⟨⟨0, puts [n], puts [30], fun _ _ => 0⟩, ⟨hck, ⟨_, rfl, by simp, fun w => Fr.in_26 d n m a c i w hok⟩, ⟨_, rfl, by simp, hO, fun w => Fr.out_26 d n m a c i w hok⟩, fun h _ => absurd h (by decide), fun _ _ _ => zbd⟩, ⟨(fun h => absurd h (by decide)), (fun h => absurd h (by decide)), (fun h => absurd h (by decide))⟩⟩
theorem anyI_27 (d n m a c i : Int) : AnyI 27 d n m a c i := by
  cases hok : Fr.ok_27 d n m a c i
  · exact ⟨noF, good_no 27 d n m a c i (ck1 (Fr.check_27 d n m a c i) hok), ⟨(fun h => absurd h (by decide)), (fun h => absurd h (by decide)), (fun h => absurd h (by decide))⟩⟩
  · have hck := ck0 (Fr.check_27 d n m a c i) hok
    have hO : ∀ x ∈ ([] : List Int), 0 ≤ x ∧ x ≤ 33 := by simp
    exact ⟨⟨0, puts [n], puts [], fun _ _ => 0⟩, ⟨hck, ⟨_, rfl, by simp, fun w => Fr.in_27 d n m a c i w hok⟩, ⟨_, rfl, by simp, hO, fun w => Fr.out_27 d n m a c i w hok⟩, fun h _ => absurd h (by decide), fun _ _ _ => zbd⟩, ⟨(fun h => absurd h (by decide)), (fun h => absurd h (by decide)), (fun h => absurd h (by decide))⟩⟩
theorem anyI_28 (d n m a c i : Int) : AnyI 28 d n m a c i := by
  cases hok : Fr.ok_28 d n m a c i
  · exact ⟨noF, good_no 28 d n m a c i (ck1 (Fr.check_28 d n m a c i) hok), ⟨(fun _ h => by rw [hok] at h; cases h), (fun h => absurd h (by decide)), (fun h => absurd h (by decide))⟩⟩
  · have hck := ck0 (Fr.check_28 d n m a c i) hok
    have hO : ∀ x ∈ ([d] : List Int), 0 ≤ x ∧ x ≤ 33 := by
      simp only [Fr.ok_28, Bool.and_eq_true, wi_t, beq_iff_eq] at hok
      intro x hx
      simp only [List.mem_cons, List.not_mem_nil, or_false] at hx
      (try split at hx) <;> omega
    exact ⟨⟨0, puts [(Fr.spOr n)], puts [d], fun pc r => IntKind.u64.wrap (r.get (spR n) + IntKind.u64.wrap i)⟩, ⟨hck, ⟨_, rfl, by simp, fun w => Fr.in_28 d n m a c i w hok⟩, ⟨_, rfl, by simp, hO, fun w => Fr.out_28 d n m a c i w hok⟩, fun _ _ pc r w => (show Calls Try.prog 163 _ _ _ from do_p65 28 d n m a c i pc _ _ r w hck doing_28 (fun w => addn_g 28 d n m a c i pc _ r w (fun w => first_m 28 d n m a c i pc r w rfl rfl rfl (by omega) (by omega))) (fun w => stored_28 d n m a c i pc r w)).mono fun e w' hh => ⟨_, _, hh.1, hh.2⟩, fun _ r hr => ⟨wrap_lo _, wrap_hi _⟩⟩, ⟨(fun _ _ => rfl), (fun h => absurd h (by decide)), (fun h => absurd h (by decide))⟩⟩
theorem anyI_29 (d n m a c i : Int) : AnyI 29 d n m a c i := by
  cases hok : Fr.ok_29 d n m a c i
  · exact ⟨noF, good_no 29 d n m a c i (ck1 (Fr.check_29 d n m a c i) hok), ⟨(fun h => absurd h (by decide)), (fun _ h => by rw [hok] at h; cases h), (fun h => absurd h (by decide))⟩⟩
  · have hck := ck0 (Fr.check_29 d n m a c i) hok
    have hO : ∀ x ∈ ([] : List Int), 0 ≤ x ∧ x ≤ 33 := by simp
    exact ⟨⟨0, puts [d, (Fr.spOr n)], puts [], fun pc r => IntKind.u64.wrap (r.get (spR n) + IntKind.u64.wrap i)⟩, ⟨hck, ⟨_, rfl, by simp, fun w => Fr.in_29 d n m a c i w hok⟩, ⟨_, rfl, by simp, hO, fun w => Fr.out_29 d n m a c i w hok⟩, fun _ _ pc r w => (show Calls Try.prog 163 _ _ _ from do_p65 29 d n m a c i pc _ _ r w hck doing_29 (fun w => addn_g 29 d n m a c i pc _ r w (fun w => first_m 29 d n m a c i pc r w rfl rfl rfl (by omega) (by omega))) (fun w => stored_29 d n m a c i pc r w)).mono fun e w' hh => ⟨_, _, hh.1, hh.2⟩, fun _ r hr => ⟨wrap_lo _, wrap_hi _⟩⟩, ⟨(fun h => absurd h (by decide)), (fun _ _ => rfl), (fun h => absurd h (by decide))⟩⟩
theorem anyI_30 (d n m a c i : Int) : AnyI 30 d n m a c i := by
  cases hok : Fr.ok_30 d n m a c i
  · exact ⟨noF, good_no 30 d n m a c i (ck1 (Fr.check_30 d n m a c i) hok), ⟨(fun h => absurd h (by decide)), (fun h => absurd h (by decide)), (fun h => absurd h (by decide))⟩⟩
  · have hck := ck0 (Fr.check_30 d n m a c i) hok
    have hO : ∀ x ∈ ([d] : List Int), 0 ≤ x ∧ x ≤ 33 := by
      simp only [Fr.ok_30, Bool.and_eq_true, wi_t, beq_iff_eq] at hok
      intro x hx
      simp only [List.mem_cons, List.not_mem_nil, or_false] at hx
      (try split at hx) <;> omega
    exact ⟨⟨0, puts [(Fr.spOr n)], puts [d], fun pc r => IntKind.u64.wrap (r.get (spR n) + IntKind.u64.wrap i)⟩, ⟨hck, ⟨_, rfl, by simp, fun w => Fr.in_30 d n m a c i w hok⟩, ⟨_, rfl, by simp, hO, fun w => Fr.out_30 d n m a c i w hok⟩, fun _ _ pc r w => (show Calls Try.prog 163 _ _ _ from do_p65 30 d n m a c i pc _ _ r w hck doing_30 (fun w => addn_g 30 d n m a c i pc _ r w (fun w => first_m 30 d n m a c i pc r w rfl rfl rfl (by omega) (by omega))) (fun w => stored_30 d n m a c i pc r w)).mono fun e w' hh => ⟨_, _, hh.1, hh.2⟩, fun _ r hr => ⟨wrap_lo _, wrap_hi _⟩⟩, ⟨(fun h => absurd h (by decide)), (fun h => absurd h (by decide)), (fun h => absurd h (by decide))⟩⟩
theorem anyI_31 (d n m a c i : Int) : AnyI 31 d n m a c i := by
  cases hok : Fr.ok_31 d n m a c i
  · exact ⟨noF, good_no 31 d n m a c i (ck1 (Fr.check_31 d n m a c i) hok), ⟨(fun h => absurd h (by decide)), (fun h => absurd h (by decide)), (fun h => absurd h (by decide))⟩⟩
  · have hck := ck0 (Fr.check_31 d n m a c i) hok
    have hO : ∀ x ∈ ([d] : List Int), 0 ≤ x ∧ x ≤ 33 := by
      simp only [Fr.ok_31, Bool.and_eq_true, wi_t, beq_iff_eq] at hok
      intro x hx
      simp only [List.mem_cons, List.not_mem_nil, or_false] at hx
      (try split at hx) <;> omega
    exact ⟨⟨0, puts [(Fr.spOr n), m], puts [d], fun pc r => IntKind.u64.wrap (r.get (spR n) + IntKind.u64.wrap (8 * r.get m))⟩, ⟨hck, ⟨_, rfl, by simp, fun w => Fr.in_31 d n m a c i w hok⟩, ⟨_, rfl, by simp, hO, fun w => Fr.out_31 d n m a c i w hok⟩, fun _ _ pc r w => (show Calls Try.prog 163 _ _ _ from do_p66 31 d n m a c i pc _ _ r w hck doing_31 (fun w => elem_g 31 d n m a c i pc _ r w (fun w => first_m 31 d n m a c i pc r w rfl rfl rfl (by omega) (by omega))) (fun w => stored_31 d n m a c i pc r w)).mono fun e w' hh => ⟨_, _, hh.1, hh.2⟩, fun _ r hr => ⟨wrap_lo _, wrap_hi _⟩⟩, ⟨(fun h => absurd h (by decide)), (fun h => absurd h (by decide)), (fun h => absurd h (by decide))⟩⟩
theorem anyI_32 (d n m a c i : Int) : AnyI 32 d n m a c i := by
  cases hok : Fr.ok_32 d n m a c i
  · exact ⟨noF, good_no 32 d n m a c i (ck1 (Fr.check_32 d n m a c i) hok), ⟨(fun h => absurd h (by decide)), (fun h => absurd h (by decide)), (fun h => absurd h (by decide))⟩⟩
  · have hck := ck0 (Fr.check_32 d n m a c i) hok
    have hO : ∀ x ∈ ([] : List Int), 0 ≤ x ∧ x ≤ 33 := by simp
    exact ⟨⟨0, puts [d, (Fr.spOr n), m], puts [], fun pc r => IntKind.u64.wrap (r.get (spR n) + IntKind.u64.wrap (8 * r.get m))⟩, ⟨hck, ⟨_, rfl, by simp, fun w => Fr.in_32 d n m a c i w hok⟩, ⟨_, rfl, by simp, hO, fun w => Fr.out_32 d n m a c i w hok⟩, fun _ _ pc r w => (show Calls Try.prog 163 _ _ _ from do_p66 32 d n m a c i pc _ _ r w hck doing_32 (fun w => elem_g 32 d n m a c i pc _ r w (fun w => first_m 32 d n m a c i pc r w rfl rfl rfl (by omega) (by omega))) (fun w => stored_32 d n m a c i pc r w)).mono fun e w' hh => ⟨_, _, hh.1, hh.2⟩, fun _ r hr => ⟨wrap_lo _, wrap_hi _⟩⟩, ⟨(fun h => absurd h (by decide)), (fun h => absurd h (by decide)), (fun h => absurd h (by decide))⟩⟩
theorem anyI_33 (d n m a c i : Int) : AnyI 33 d n m a c i := by
  cases hok : Fr.ok_33 d n m a c i
  · exact ⟨noF, good_no 33 d n m a c i (ck1 (Fr.check_33 d n m a c i) hok), ⟨(fun h => absurd h (by decide)), (fun h => absurd h (by decide)), (fun h => absurd h (by decide))⟩⟩
  · have hck := ck0 (Fr.check_33 d n m a c i) hok
    have hO : ∀ x ∈ ([d] : List Int), 0 ≤ x ∧ x ≤ 33 := by
      simp only [Fr.ok_33, Bool.and_eq_true, wi_t, beq_iff_eq] at hok
      intro x hx
      simp only [List.mem_cons, List.not_mem_nil, or_false] at hx
      (try split at hx) <;> omega
    exact ⟨⟨0, puts [(Fr.spOr n)], puts [d], fun pc r => r.get (spR n)⟩, ⟨hck, ⟨_, rfl, by simp, fun w => Fr.in_33 d n m a c i w hok⟩, ⟨_, rfl, by simp, hO, fun w => Fr.out_33 d n m a c i w hok⟩, fun _ _ pc r w => (show Calls Try.prog 163 _ _ _ from do_p64 33 d n m a c i pc _ _ r w hck doing_33 (fun w => first_m 33 d n m a c i pc r w rfl rfl rfl (by omega) (by omega)) (fun w => stored_33 d n m a c i pc r w)).mono fun e w' hh => ⟨_, _, hh.1, hh.2⟩, fun _ r hr => Rg.within_get hr _⟩, ⟨(fun h => absurd h (by decide)), (fun h => absurd h (by decide)), (fun h => absurd h (by decide))⟩⟩
theorem anyI_34 (d n m a c i : Int) : AnyI 34 d n m a c i := by
  cases hok : Fr.ok_34 d n m a c i
  · exact ⟨noF, good_no 34 d n m a c i (ck1 (Fr.check_34 d n m a c i) hok), ⟨(fun h => absurd h (by decide)), (fun h => absurd h (by decide)), (fun _ h => by rw [hok] at h; cases h)⟩⟩
  · have hck := ck0 (Fr.check_34 d n m a c i) hok
    have hO : ∀ x ∈ ([] : List Int), 0 ≤ x ∧ x ≤ 33 := by simp
    exact ⟨⟨0, puts [d, (Fr.spOr n)], puts [], fun pc r => r.get (spR n)⟩, ⟨hck, ⟨_, rfl, by simp, fun w => Fr.in_34 d n m a c i w hok⟩, ⟨_, rfl, by simp, hO, fun w => Fr.out_34 d n m a c i w hok⟩, fun _ _ pc r w => (show Calls Try.prog 163 _ _ _ from do_p64 34 d n m a c i pc _ _ r w hck doing_34 (fun w => first_m 34 d n m a c i pc r w rfl rfl rfl (by omega) (by omega)) (fun w => stored_34 d n m a c i pc r w)).mono fun e w' hh => ⟨_, _, hh.1, hh.2⟩, fun _ r hr => Rg.within_get hr _⟩, ⟨(fun h => absurd h (by decide)), (fun h => absurd h (by decide)), (fun _ _ => rfl)⟩⟩
theorem anyI_35 (d n m a c i : Int) : AnyI 35 d n m a c i := by
  cases hok : Fr.ok_35 d n m a c i
  · exact ⟨noF, good_no 35 d n m a c i (ck1 (Fr.check_35 d n m a c i) hok), ⟨(fun h => absurd h (by decide)), (fun h => absurd h (by decide)), (fun h => absurd h (by decide))⟩⟩
  · have hck := ck0 (Fr.check_35 d n m a c i) hok
    have hO : ∀ x ∈ ([d] : List Int), 0 ≤ x ∧ x ≤ 33 := by
      simp only [Fr.ok_35, Bool.and_eq_true, wi_t, beq_iff_eq] at hok
      intro x hx
      simp only [List.mem_cons, List.not_mem_nil, or_false] at hx
      (try split at hx) <;> omega
    exact ⟨⟨0, puts [(Fr.spOr n)], puts [d], fun pc r => r.get (spR n)⟩, ⟨hck, ⟨_, rfl, by simp, fun w => Fr.in_35 d n m a c i w hok⟩, ⟨_, rfl, by simp, hO, fun w => Fr.out_35 d n m a c i w hok⟩, fun _ _ pc r w => (show Calls Try.prog 163 _ _ _ from do_p64 35 d n m a c i pc _ _ r w hck doing_35 (fun w => first_m 35 d n m a c i pc r w rfl rfl rfl (by omega) (by omega)) (fun w => stored_35 d n m a c i pc r w)).mono fun e w' hh => ⟨_, _, hh.1, hh.2⟩, fun _ r hr => Rg.within_get hr _⟩, ⟨(fun h => absurd h (by decide)), (fun h => absurd h (by decide)), (fun h => absurd h (by decide))⟩⟩
theorem anyI_36 (d n m a c i : Int) : AnyI 36 d n m a c i := by
  cases hok : Fr.ok_36 d n m a c i
  · exact ⟨noF, good_no 36 d n m a c i (ck1 (Fr.check_36 d n m a c i) hok), ⟨(fun h => absurd h (by decide)), (fun h => absurd h (by decide)), (fun h => absurd h (by decide))⟩⟩
  · have hck := ck0 (Fr.check_36 d n m a c i) hok
    have hO : ∀ x ∈ ([d] : List Int), 0 ≤ x ∧ x ≤ 33 := by
      simp only [Fr.ok_36, Bool.and_eq_true, wi_t, beq_iff_eq] at hok
      intro x hx
      simp only [List.mem_cons, List.not_mem_nil, or_false] at hx
      (try split at hx) <;> omega
    exact ⟨⟨0, puts [(Fr.spOr n), m], puts [d], fun pc r => r.get (spR n)⟩, ⟨hck, ⟨_, rfl, by simp, fun w => Fr.in_36 d n m a c i w hok⟩, ⟨_, rfl, by simp, hO, fun w => Fr.out_36 d n m a c i w hok⟩, fun _ _ pc r w => (show Calls Try.prog 163 _ _ _ from do_p64 36 d n m a c i pc _ _ r w hck doing_36 (fun w => first_m 36 d n m a c i pc r w rfl rfl rfl (by omega) (by omega)) (fun w => stored_36 d n m a c i pc r w)).mono fun e w' hh => ⟨_, _, hh.1, hh.2⟩, fun _ r hr => Rg.within_get hr _⟩, ⟨(fun h => absurd h (by decide)), (fun h => absurd h (by decide)), (fun h => absurd h (by decide))⟩⟩
theorem anyI_37 (d n m a c i : Int) : AnyI 37 d n m a c i := by
  cases hok : Fr.ok_37 d n m a c i
  · exact ⟨noF, good_no 37 d n m a c i (ck1 (Fr.check_37 d n m a c i) hok), ⟨(fun h => absurd h (by decide)), (fun h => absurd h (by decide)), (fun h => absurd h (by decide))⟩⟩
  · have hck := ck0 (Fr.check_37 d n m a c i) hok
    have hO : ∀ x ∈ ([] : List Int), 0 ≤ x ∧ x ≤ 33 := by simp
    exact ⟨⟨0, puts [], puts [], fun _ _ => 0⟩, ⟨hck, ⟨_, rfl, by simp, fun w => Fr.in_37 d n m a c i w hok⟩, ⟨_, rfl, by simp, hO, fun w => Fr.out_37 d n m a c i w hok⟩, fun h _ => absurd h (by decide), fun _ _ _ => zbd⟩, ⟨(fun h => absurd h (by decide)), (fun h => absurd h (by decide)), (fun h => absurd h (by decide))⟩⟩
theorem anyI_38 (d n m a c i : Int) : AnyI 38 d n m a c i := by
  cases hok : Fr.ok_38 d n m a c i
  · exact ⟨noF, good_no 38 d n m a c i (ck1 (Fr.check_38 d n m a c i) hok), ⟨(fun h => absurd h (by decide)), (fun h => absurd h (by decide)), (fun h => absurd h (by decide))⟩⟩
  · have hck := ck0 (Fr.check_38 d n m a c i) hok
    have hO : ∀ x ∈ ([] : List Int), 0 ≤ x ∧ x ≤ 33 := by simp
    exact ⟨⟨0, puts [], puts [], fun _ _ => 0⟩, ⟨hck, ⟨_, rfl, by simp, fun w => Fr.in_38 d n m a c i w hok⟩, ⟨_, rfl, by simp, hO, fun w => Fr.out_38 d n m a c i w hok⟩, fun h _ => absurd h (by decide), fun _ _ _ => zbd⟩, ⟨(fun h => absurd h (by decide)), (fun h => absurd h (by decide)), (fun h => absurd h (by decide))⟩⟩
theorem anyI_39 (d n m a c i : Int) : AnyI 39 d n m a c i := by
  cases hok : Fr.ok_39 d n m a c i
  · exact ⟨noF, good_no 39 d n m a c i (ck1 (Fr.check_39 d n m a c i) hok), ⟨(fun h => absurd h (by decide)), (fun h => absurd h (by decide)), (fun h => absurd h (by decide))⟩⟩
  · have hck := ck0 (Fr.check_39 d n m a c i) hok
    have hO : ∀ x ∈ ([] : List Int), 0 ≤ x ∧ x ≤ 33 := by simp
    exact ⟨⟨0, puts [], puts [], fun _ _ => 0⟩, ⟨hck, ⟨_, rfl, by simp, fun w => Fr.in_39 d n m a c i w hok⟩, ⟨_, rfl, by simp, hO, fun w => Fr.out_39 d n m a c i w hok⟩, fun h _ => absurd h (by decide), fun _ _ _ => zbd⟩, ⟨(fun h => absurd h (by decide)), (fun h => absurd h (by decide)), (fun h => absurd h (by decide))⟩⟩
theorem anyI_40 (d n m a c i : Int) : AnyI 40 d n m a c i := by
  cases hok : Fr.ok_40 d n m a c i
  · exact ⟨noF, good_no 40 d n m a c i (ck1 (Fr.check_40 d n m a c i) hok), ⟨(fun h => absurd h (by decide)), (fun h => absurd h (by decide)), (fun h => absurd h (by decide))⟩⟩
  · have hck := ck0 (Fr.check_40 d n m a c i) hok
    have hO : ∀ x ∈ ([] : List Int), 0 ≤ x ∧ x ≤ 33 := by simp
    exact ⟨⟨0, puts [n], puts [], fun pc r => r.get n⟩, ⟨hck, ⟨_, rfl, by simp, fun w => Fr.in_40 d n m a c i w hok⟩, ⟨_, rfl, by simp, hO, fun w => Fr.out_40 d n m a c i w hok⟩, fun _ _ pc r w => (show Calls Try.prog 163 _ _ _ from do_p64 40 d n m a c i pc _ _ r w hck doing_40 (fun w => first_n 40 d n m a c i pc r w rfl rfl rfl (by omega)) (fun w => stored_40 d n m a c i pc r w)).mono fun e w' hh => ⟨_, _, hh.1, hh.2⟩, fun _ r hr => Rg.within_get hr _⟩, ⟨(fun h => absurd h (by decide)), (fun h => absurd h (by decide)), (fun h => absurd h (by decide))⟩⟩
theorem anyI_41 (d n m a c i : Int) : AnyI 41 d n m a c i := by
  cases hok : Fr.ok_41 d n m a c i
  · exact ⟨noF, good_no 41 d n m a c i (ck1 (Fr.check_41 d n m a c i) hok), ⟨(fun h => absurd h (by decide)), (fun h => absurd h (by decide)), (fun h => absurd h (by decide))⟩⟩
  · have hck := ck0 (Fr.check_41 d n m a c i) hok
    have hO : ∀ x ∈ ([] : List Int), 0 ≤ x ∧ x ≤ 33 := by simp
    exact ⟨⟨0, puts [n], puts [], fun pc r => r.get n⟩, ⟨hck, ⟨_, rfl, by simp, fun w => Fr.in_41 d n m a c i w hok⟩, ⟨_, rfl, by simp, hO, fun w => Fr.out_41 d n m a c i w hok⟩, fun _ _ pc r w => (show Calls Try.prog 163 _ _ _ from do_p64 41 d n m a c i pc _ _ r w hck doing_41 (fun w => first_n 41 d n m a c i pc r w rfl rfl rfl (by omega)) (fun w => stored_41 d n m a c i pc r w)).mono fun e w' hh => ⟨_, _, hh.1, hh.2⟩, fun _ r hr => Rg.within_get hr _⟩, ⟨(fun h => absurd h (by decide)), (fun h => absurd h (by decide)), (fun h => absurd h (by decide))⟩⟩
theorem anyI_42 (d n m a c i : Int) : AnyI 42 d n m a c i := by
  cases hok : Fr.ok_42 d n m a c i
  · exact ⟨noF, good_no 42 d n m a c i (ck1 (Fr.check_42 d n m a c i) hok), ⟨(fun h => absurd h (by decide)), (fun h => absurd h (by decide)), (fun h => absurd h (by decide))⟩⟩
  · have hck := ck0 (Fr.check_42 d n m a c i) hok
    have hO : ∀ x ∈ ([] : List Int), 0 ≤ x ∧ x ≤ 33 := by simp
    exact ⟨⟨0, puts [], puts [], fun _ _ => 0⟩, ⟨hck, ⟨_, rfl, by simp, fun w => Fr.in_42 d n m a c i w hok⟩, ⟨_, rfl, by simp, hO, fun w => Fr.out_42 d n m a c i w hok⟩, fun h _ => absurd h (by decide), fun _ _ _ => zbd⟩, ⟨(fun h => absurd h (by decide)), (fun h => absurd h (by decide)), (fun h => absurd h (by decide))⟩⟩
theorem anyI (o d n m a c i : Int) : AnyI o d n m a c i := by
  by_cases h : 0 ≤ o ∧ o ≤ 42
  · have : o = 0 ∨ o = 1 ∨ o = 2 ∨ o = 3 ∨ o = 4 ∨ o = 5 ∨ o = 6 ∨ o = 7 ∨ o = 8 ∨ o = 9 ∨ o = 10 ∨ o = 11 ∨ o = 12 ∨ o = 13 ∨ o = 14 ∨ o = 15 ∨ o = 16 ∨ o = 17 ∨ o = 18 ∨ o = 19 ∨ o = 20 ∨ o = 21 ∨ o = 22 ∨ o = 23 ∨ o = 24 ∨ o = 25 ∨ o = 26 ∨ o = 27 ∨ o = 28 ∨ o = 29 ∨ o = 30 ∨ o = 31 ∨ o = 32 ∨ o = 33 ∨ o = 34 ∨ o = 35 ∨ o = 36 ∨ o = 37 ∨ o = 38 ∨ o = 39 ∨ o = 40 ∨ o = 41 ∨ o = 42 := by omega
    rcases this with rfl | rfl | rfl | rfl | rfl | rfl | rfl | rfl | rfl | rfl | rfl | rfl | rfl | rfl | rfl | rfl | rfl | rfl | rfl | rfl | rfl | rfl | rfl | rfl | rfl | rfl | rfl | rfl | rfl | rfl | rfl | rfl | rfl | rfl | rfl | rfl | rfl | rfl | rfl | rfl | rfl | rfl | rfl
    · exact anyI_0 d n m a c i
    · exact anyI_1 d n m a c i
    · exact anyI_2 d n m a c i
    · exact anyI_3 d n m a c i
    · exact anyI_4 d n m a c i
    · exact anyI_5 d n m a c i
    · exact anyI_6 d n m a c i
    · exact anyI_7 d n m a c i
    · exact anyI_8 d n m a c i
    · exact anyI_9 d n m a c i
    · exact anyI_10 d n m a c i
    · exact anyI_11 d n m a c i
    · exact anyI_12 d n m a c i
    · exact anyI_13 d n m a c i
    · exact anyI_14 d n m a c i
    · exact anyI_15 d n m a c i
    · exact anyI_16 d n m a c i
    · exact anyI_17 d n m a c i
    · exact anyI_18 d n m a c i
    · exact anyI_19 d n m a c i
    · exact anyI_20 d n m a c i
    · exact anyI_21 d n m a c i
    · exact anyI_22 d n m a c i
    · exact anyI_23 d n m a c i
    · exact anyI_24 d n m a c i
    · exact anyI_25 d n m a c i
    · exact anyI_26 d n m a c i
    · exact anyI_27 d n m a c i
    · exact anyI_28 d n m a c i
    · exact anyI_29 d n m a c i
    · exact anyI_30 d n m a c i
    · exact anyI_31 d n m a c i
    · exact anyI_32 d n m a c i
    · exact anyI_33 d n m a c i
    · exact anyI_34 d n m a c i
    · exact anyI_35 d n m a c i
    · exact anyI_36 d n m a c i
    · exact anyI_37 d n m a c i
    · exact anyI_38 d n m a c i
    · exact anyI_39 d n m a c i
    · exact anyI_40 d n m a c i
    · exact anyI_41 d n m a c i
    · exact anyI_42 d n m a c i
  · exact ⟨noF, good_no o d n m a c i (fun w => Fr.check_non o d n m a c i 0 w (fun w => Fr.isop_n o w (by omega))), ⟨fun h => by omega, fun h => by omega, fun h => by omega⟩⟩
noncomputable def fOf (I : WI) : InsF := Classical.choose (anyI I.op I.d I.n I.m I.a I.c I.i)
theorem fOf_good (I : WI) : GoodI I.op I.d I.n I.m I.a I.c I.i (fOf I) := (Classical.choose_spec (anyI I.op I.d I.n I.m I.a I.c I.i)).1
theorem fOf_spec (I : WI) : SpecI I.op I.d I.n I.m I.a I.c I.i (fOf I) := (Classical.choose_spec (anyI I.op I.d I.n I.m I.a I.c I.i)).2
theorem adS_bd (F : Nat → WI) (base : Rg) (hb : base.within) (i : Nat) (hF : ∀ j, j < i → (F j).r.within) (a : Int) (h : adS fOf F base i = some a) : 0 ≤ a ∧ a < 18446744073709551616 := by
  unfold adS at h
  split at h
  · split at h
    · rename_i r hr
      injection h with h
      subst h
      exact (fOf_good (F i)).adb _ _ (inpS_bd fOf F base hb i hF _ base r hb hr)
    · cases h
  · cases h
end Go.Proofs.Ytnbpgoacooddjaa
