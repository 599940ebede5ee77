import Derived.Test.YtnmgafaebggeiaaSi
import Derived.Deep.Slices
import Derived.Deep.Fields
import Derived.ChangeSame
namespace Go.Proofs.Ytnmgafaebggeiaa.St
open Go.ChangeShapes Go.WideShapes Go.ChangeAt Go.RowKit Go.Maps Go.Deep
set_option linter.unusedVariables false
/-! ### Events that come in -/
theorem choose_nat' {α : Type} (z : α) {n : Nat} {p : Nat → α → Prop} (h : ∀ i, i < n → ∃ x, p i x) : ∃ f : Nat → α, ∀ i, i < n → p i (f i) :=
  ⟨fun i => if hi : i < n then Classical.choose (h i hi) else z, fun i hi => by simp only [dif_pos hi]; exact Classical.choose_spec (h i hi)⟩
theorem wf_int {c : Int} (h : (Lit.int .i64 c).wf = true) : Wf c := by
  simp [Lit.wf, IntKind.min, IntKind.max, IntKind.signed, IntKind.bits] at h
  unfold Wf
  omega
theorem cells42 : Try.prog.cellsOf 42 = 2 := by kernel_rfl
theorem cells44 : Try.prog.cellsOf 44 = 9 := by kernel_rfl
theorem cells2 : Try.prog.cellsOf 2 = 1 := by kernel_rfl
theorem cells4 : Try.prog.cellsOf 4 = 1 := by kernel_rfl
theorem ev_open {H : Type} {enc : TypeId × Value → H} {w : World} {base : Nat} {spare : Nat → Bool} {held : Bool} {a : Option Addr} {n cap : Nat} {d : DataW H} {p : List MemPlace} (h : DataW.Trod enc Try.prog w base spare held 36 (.slice a n cap) d p) : ∃ X, EvS w a n X ∧ ∀ i, i < n → (X i).ok := by
  obtain ⟨fuel, hf⟩ := h
  rcases open_slice Try.underlying36 hf with ⟨hcs, _⟩ | ⟨x, l, c, m, nf, D, Pl, hcs, _, hl, hm, hmm, _, hi⟩
  · simp [Value.cells] at hcs
    obtain ⟨rfl, rfl, rfl⟩ := hcs
    exact ⟨fun _ => ⟨0, 0, 0, 0, 0, false, 0, 0, 0⟩, .inl rfl, fun i hi => by omega⟩
  · simp [Value.cells] at hcs
    obtain ⟨rfl, rfl, rfl⟩ := hcs
    have hlm : n ≤ m := by rw [hmm]; split <;> omega
    obtain ⟨b, off, spot⟩ := x
    by_cases hn0 : n = 0
    · exact ⟨fun _ => ⟨0, 0, 0, 0, 0, false, 0, 0, 0⟩, .inl hn0, fun i hi => by omega⟩
    have hall : ∀ i, i < n → ∃ z : Ev, (∀ r u, (z.v.cells)[r]? = some u → w.cell? ((⟨b, off, spot⟩ : Addr).add (i * 9 + r)) = some u) ∧ z.ok := fun i hin => by
      obtain ⟨cs, hc, ht⟩ := hi i (by omega)
      rw [cells44] at hc
      obtain ⟨_, hcl, hat⟩ := World.cells?_some hc
      obtain ⟨ys, nn, _, _, hlen, hyl, hfs⟩ := DataW.trod_struct Try.underlying44 ht
      have hys : ∀ r, r < 8 → ys[r]? = some (ys[r]!) := fun r hr => by
        have : r < ys.length := by rw [hyl]; exact hr
        rw [List.getElem?_eq_getElem this, getElem!_pos ys r this]
      match cs, hcl with
      | [v0, v1, v2, v3, v4, v5, v6, v7, v8], _ =>
        have t0 := (hfs 0 { name := "Thread", type := 3, offset := 0, embedded := false, tag := "", pkgPath := "", byteOffset := 0 } rfl).trans (hys 0 (by omega))
        have t1 := (hfs 1 { name := "Kind", type := 3, offset := 1, embedded := false, tag := "", pkgPath := "", byteOffset := 8 } rfl).trans (hys 1 (by omega))
        have t2 := (hfs 2 { name := "Object", type := 3, offset := 2, embedded := false, tag := "", pkgPath := "", byteOffset := 16 } rfl).trans (hys 2 (by omega))
        have t3 := (hfs 3 { name := "Slot", type := 3, offset := 3, embedded := false, tag := "", pkgPath := "", byteOffset := 24 } rfl).trans (hys 3 (by omega))
        have t4 := (hfs 4 { name := "Value", type := 2, offset := 4, embedded := false, tag := "", pkgPath := "", byteOffset := 32 } rfl).trans (hys 4 (by omega))
        have t5 := (hfs 5 { name := "Ref", type := 4, offset := 5, embedded := false, tag := "", pkgPath := "", byteOffset := 40 } rfl).trans (hys 5 (by omega))
        have t6 := (hfs 6 { name := "From", type := 42, offset := 6, embedded := false, tag := "", pkgPath := "", byteOffset := 48 } rfl).trans (hys 6 (by omega))
        have t7 := (hfs 7 { name := "At", type := 3, offset := 8, embedded := false, tag := "", pkgPath := "", byteOffset := 64 } rfl).trans (hys 7 (by omega))
        dsimp only at t0 t1 t2 t3 t4 t5 t6 t7
        rw [cells3] at t0 t1 t2 t3 t7
        rw [cells2] at t4
        rw [cells4] at t5
        rw [cells42] at t6
        obtain ⟨q0, h0, _, w0⟩ := DataW.trod_int Try.underlying3 t0
        obtain ⟨q1, h1, _, w1⟩ := DataW.trod_int Try.underlying3 t1
        obtain ⟨q2, h2, _, w2⟩ := DataW.trod_int Try.underlying3 t2
        obtain ⟨q3, h3, _, w3⟩ := DataW.trod_int Try.underlying3 t3
        obtain ⟨q4, h4, _, w4⟩ := DataW.trod_int Try.underlying2 t4
        obtain ⟨q5, h5, _⟩ := DataW.trod_bool Try.underlying4 t5
        obtain ⟨y6, y7, n6, _, _, s6, s7⟩ := trod_struct2 Try.underlying42 t6
        rw [cells3] at s6 s7
        obtain ⟨q6, h6, _⟩ := DataW.trod_int Try.underlying3 s6
        obtain ⟨q7, h7, _⟩ := DataW.trod_int Try.underlying3 s7
        obtain ⟨q8, h8, _, w8⟩ := DataW.trod_int Try.underlying3 t7
        injection h0 with h0
        injection h1 with h1
        injection h2 with h2
        injection h3 with h3
        injection h4 with h4
        injection h5 with h5
        injection h6 with h6
        injection h7 with h7
        injection h8 with h8
        subst h0 h1 h2 h3 h4 h5 h6 h7 h8
        refine ⟨⟨q0, q1, q2, q3, q4, q5, q6, q7, q8⟩, fun r u hu => ?_, wf_int w0, wf_int w1, wf_int w2, wf_int w3, wf_int w4, wf_int w8⟩
        have hr : r < 9 := by
          have := (Array.getElem?_eq_some_iff.1 hu).1
          exact this
        have := hat r hr
        rw [← Go.Deep.add_add, this]
        rw [← hu]
        simp [Ev.v, Value.cells]
    have hspot : spot = none := by
      obtain ⟨z, hz, _⟩ := hall 0 (by omega)
      have := hz 0 _ rfl
      simpa [Addr.add] using World.cell?_spot this
    subst hspot
    obtain ⟨F, hF⟩ := choose_nat' (⟨0, 0, 0, 0, 0, false, 0, 0, 0⟩ : Ev) hall
    refine ⟨F, .inr ⟨b, off, rfl, ?_, fun i hin => ?_⟩, fun i hin => (hF i hin).2⟩
    · exact World.block_lt_of_cell? w ⟨b, off + (0 * 9 + 0), none⟩ (by have := (hF 0 (by omega)).1 0 _ rfl; rwa [Go.WideShapes.add_plain] at this)
    · have h9 : ∀ r u, ((F i).v.cells)[r]? = some u → w.cell? ⟨b, off + i * 9 + r, none⟩ = some u := fun r u hu => by
        have := (hF i hin).1 r u hu
        rwa [Go.WideShapes.add_plain, ← Nat.add_assoc] at this
      exact ⟨h9 0 _ rfl, h9 1 _ rfl, h9 2 _ rfl, h9 3 _ rfl, h9 4 _ rfl, h9 5 _ rfl, h9 6 _ rfl, h9 7 _ rfl, h9 8 _ rfl⟩
end Go.Proofs.Ytnmgafaebggeiaa.St
