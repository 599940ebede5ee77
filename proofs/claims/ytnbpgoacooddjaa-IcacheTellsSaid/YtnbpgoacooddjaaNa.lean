import Derived.Test.YtnbpgoacooddjaaMz
namespace Go.Proofs.Ytnbpgoacooddjaa.Mm
open Go.ChangeShapes Go.WideShapes Go.ChangeAt Go.RowKit
set_option linter.unusedVariables false
/-- Where a slice of bytes lies that came in. -/
def SrcB (w : World) (sp : Option Addr) (m : Nat) (l : Nat → Nat) (F1 F2 : Nat → Prop) : Prop := 0 < m → ∃ sb so, sp = some ⟨sb, so, none⟩ ∧ ¬ F1 sb ∧ ¬ F2 sb ∧ sb < w.heap.size ∧ ∀ j, j < m → w.cell? ⟨sb, so + j, none⟩ = some (.int .u8 (l j : Nat))
theorem SrcB.kp {w w' : World} {sp : Option Addr} {m : Nat} {l : Nat → Nat} {F1 F2 F : Nat → Prop} (h : SrcB w sp m l F1 F2) (hk : Kp F w w') (hF : ∀ k, F k → F1 k ∨ F2 k) : SrcB w' sp m l F1 F2 := fun h0 => by
  obtain ⟨sb, so, e, n1, n2, hl, hc⟩ := h h0
  refine ⟨sb, so, e, n1, n2, Nat.lt_of_lt_of_le hl hk.size, fun j hj => ?_⟩
  rw [← hc j hj]
  unfold World.cell?
  rw [hk.block sb hl (fun hf => by
    rcases hF sb hf with h1 | h1
    · exact n1 h1
    · exact n2 h1)]
theorem SrcB.bys {w : World} {sp : Option Addr} {m cs : Nat} {l : Nat → Nat} {F1 F2 : Nat → Prop} (h : SrcB w sp m l F1 F2) (hcs : m ≤ cs) : Bys w (.slice sp m cs) ((List.range m).map l) := by
  refine ⟨sp, cs, by simp, by simpa using hcs, fun h0 => ?_⟩
  obtain ⟨sb, so, e, n1, n2, hl, hc⟩ := h (by simpa using h0)
  refine ⟨_, e, hl, fun j c hj => ?_⟩
  have hj1 : j < m := by simpa using (List.getElem?_eq_some_iff.1 hj).1
  rw [List.getElem?_map, List.getElem?_range hj1] at hj
  injection hj with hj
  subst hj
  have : (⟨sb, so, none⟩ : Addr).add j = ⟨sb, so + j, none⟩ := by unfold Addr.add; split <;> simp_all
  rw [this]
  exact hc j hj1
/-- Load of both, one after the other. -/
theorem bo_load (w : World) (F1 F2 : Nat → Prop) (p1 p2 : Nat) (M : Me) (h : Bo w F1 F2 p1 p2 M) (x m cs : Nat) (sp : Option Addr) (l : Nat → Nat) (hx : x < 18446744073709551616) (hm : m < 9223372036854775808) (hcs : m ≤ cs) (hs : SrcB w sp m l F1 F2) (hl : ∀ j, l j < 256) :
    ∃ (r : Int) (M' : Me), Calls Try.prog 64 #[.pointer (some ⟨p1, 0, none⟩), .int .u64 x, .slice sp m cs] w fun e w1 => e = .returned (.int .i64 r) ∧ Kp F1 w w1 ∧ (∃ v B C, MeC 184 187 w1 F1 p1 M' v B C) ∧
      Calls Try.prog 65 #[.pointer (some ⟨p2, 0, none⟩), .int .u64 x, .slice sp m cs] w1 fun e w2 => e = .returned (.int .i64 r) ∧ Bo w2 F1 F2 p1 p2 M' ∧ Kp (fun k => F1 k ∨ F2 k) w w2 := by
  obtain ⟨⟨v, B, C, h1⟩, ⟨v2, B2, C2, h2⟩, h3⟩ := h
  have hlen : ((List.range m).map l).length = m := by simp
  by_cases hf : ∃ k o, Hs M x m k o
  · obtain ⟨k, o, hh⟩ := hf
    refine ⟨0, M.ld k o ((List.range m).map l), (load_y h1 (by rw [hlen]; exact hh) (hs.bys hcs) (fun c hc => by obtain ⟨i, _, rfl⟩ := List.mem_map.1 hc; exact hl i)).mono fun e w1 ⟨he, hm1, hk⟩ => ⟨he, hk, ⟨v, B, C, hm1⟩, ?_⟩⟩
    have h2' := h2.kp hk (fun q hq hq1 => h3 q hq1 hq)
    have hs' := hs.kp hk (fun k hk => .inl hk)
    refine (rload_y h2' hh hcs (fun h0 => ?_) hl).mono fun e w2 ⟨he2, hm2, hk2⟩ => ⟨he2, ⟨⟨v, B, C, hm1.kp hk2 h3⟩, ⟨v2, B2, C2, hm2⟩, h3⟩, (hk.mono fun q hq => .inl hq).trans (hk2.mono (FP' := fun k => F1 k ∨ F2 k) fun q hq => .inr hq) fun q hq => .inl hq⟩
    obtain ⟨sb, so, e, _, n2, hlt, hc⟩ := hs' h0
    exact ⟨sb, so, e, n2, hlt, hc⟩
  · have hno : ∀ k o, ¬ Hs M x m k o := fun k o hh => hf ⟨k, o, hh⟩
    refine ⟨8, M, (load_n h1 hx (by rw [hlen]; exact hno) (hs.bys hcs) (by rw [hlen]; omega)).mono fun e w1 ⟨he, q, hq⟩ => ?_⟩
    subst hq
    have hb := below_drewN (Below.refl w.heap.size w) q
    refine ⟨he, Kp.of_below hb, ⟨v, B, C, h1.past hb⟩, (rload_n (h2.past hb) hx hm hno).mono fun e w2 ⟨he, hb2⟩ => ?_⟩
    have hbb := hb.trans (hb2.mono hb.size)
    exact ⟨he, ⟨⟨v, B, C, h1.past hbb⟩, ⟨v2, B2, C2, h2.past hbb⟩, h3⟩, Kp.of_below hbb⟩
/-- The program's Twin beside the document's memory. -/
theorem bo_twin (w : World) (F1 F2 : Nat → Prop) (p1 p2 : Nat) (M : Me) (h : Bo w F1 F2 p1 p2 M) :
    Calls Try.prog 66 #[.pointer (some ⟨p1, 0, none⟩)] w fun e w1 => e = .returned (.pointer (some ⟨w.heap.size, 0, none⟩)) ∧ Below w.heap.size w w1 ∧ (∃ v B C, MeC 184 187 w1 F1 p1 M v B C) ∧ Bo w1 (fun k => w.heap.size ≤ k ∧ k < w1.heap.size) F2 w.heap.size p2 M ∧ (∀ k, F1 k → k < w.heap.size) := by
  obtain ⟨⟨v, B, C, h1⟩, ⟨v2, B2, C2, h2⟩, h3⟩ := h
  refine (twin_c h1).mono ?_
  rintro e w1 ⟨⟨v', B', C', he, hm⟩, hb⟩
  exact ⟨he, hb, ⟨v, B, C, h1.past hb⟩, ⟨⟨v', B', C', hm⟩, ⟨v2, B2, C2, h2.past hb⟩, fun k hk hk2 => by have := h2.fl k hk2; omega⟩, h1.fl⟩
end Go.Proofs.Ytnbpgoacooddjaa.Mm
