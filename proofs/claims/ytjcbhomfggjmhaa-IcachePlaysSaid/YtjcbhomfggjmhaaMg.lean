import Derived.Test.YtjcbhomfggjmhaaMf
namespace Go.Proofs.Ytjcbhomfggjmhaa.Mm
open Go.ChangeShapes Go.WideShapes Go.ChangeAt Go.RowKit
set_option linter.unusedVariables false
theorem info5z : (Try.prog.info? 5).map (fun i => (i.zero, i.size, i.bytes)) = some (some (.int .u8 0), 1, 1) := by kernel_rfl
theorem wpList_copy_cells {P : Program} {w : World} {ops : Array Oper} {rest : List Oper} {o : Oper} {a : Act} {Q : Exit → Act → World → Prop} (hgd : o.guard = none) (d s : Operand) (dT sT : TypeId)
    (ho : o.op = .call { callee := .builtin .copy, args := #[d, s], argTypes := #[dT, sT] }) (elem : TypeId) (hu : P.underlying dT = some (.slice elem)) (hsz : (P.info? elem).map (·.size) = some 1)
    (g off dLen dCap : Nat) (ad : Addr) (sLen sCap : Nat) (hd : a.eval d = .slice (some ⟨g, off, none⟩) dLen dCap) (hs : a.eval s = .slice (some ad) sLen sCap)
    (cs : List Value) (hn : cs.length = Nat.min sLen dLen)
    (hsrc : ∀ j v, cs[j]? = some v → w.cell? (ad.add j) = some v) (hc : ∀ j, j < cs.length → (w.cell? ⟨g, off + j, none⟩).isSome = true) (hf : ∀ j, j < cs.length → w.frozen? ⟨g, off + j, none⟩ = false) (h1 : ∀ v ∈ cs, v.oneCell' = true)
    (h : wpList P ops Q rest (a.put o.dst (goInt cs.length)) (w.setCells g off cs)) : wpList P ops Q (o :: rest) a w := by
  refine wpList_plain hgd fun K hK => ?_
  have hrun := run_copy_cells (P := P) w dT sT o.type elem g off dLen dCap ad sLen sCap cs hu hsz hn hsrc hc hf h1
  unfold Oper.wp
  simp [execOp, ho, resolve, invoke, builtin, hd, hs, hrun, Result.andThen]
  exact hK _ _ h
/-- A slice of these bytes, wherever it lies. -/
def Bys (w : World) (u : Value) (l : List Nat) : Prop := ∃ sp cap, u = .slice sp l.length cap ∧ l.length ≤ cap ∧ (0 < l.length → ∃ ad, sp = some ad ∧ ad.block < w.heap.size ∧ ∀ j c, l[j]? = some c → w.cell? (ad.add j) = some (.int .u8 (c : Nat)))
theorem add_block (ad : Addr) (j : Nat) : (ad.add j).block = ad.block := by unfold Addr.add; split <;> rfl
theorem Bys.past {w w' : World} {u : Value} {l : List Nat} (h : Bys w u l) (hb : Below w.heap.size w w') : Bys w' u l := by
  obtain ⟨sp, cap, e, hc, hp⟩ := h
  refine ⟨sp, cap, e, hc, fun h0 => ?_⟩
  obtain ⟨ad, e2, hlt, hh⟩ := hp h0
  exact ⟨ad, e2, Nat.lt_of_lt_of_le hlt hb.size, fun j c hj => (hb.cell (p := ad.add j) (by rw [add_block]; exact hlt)).trans (hh j c hj)⟩
theorem Bys.drew {w : World} {u : Value} {l : List Nat} (h : Bys w u l) (q : Nat) : Bys (w.drewN q) u l := h.past (below_drewN (Below.refl _ _) q)
section
variable {w : World} {FP : Nat → Prop} {p : Nat} {M : Me} {v : Value} {B C : Nat → Nat}
set_option maxRecDepth 100000 in
set_option maxHeartbeats 4000000 in
theorem load_y (h : MeC 64 67 w FP p M v B C) {x k o : Nat} {l : List Nat} {u : Value} (hs : Hs M x l.length k o) (hb : Bys w u l) (hl : ∀ c ∈ l, c < 256) :
    Calls Try.prog 8 #[.pointer (some ⟨p, 0, none⟩), .int .u64 x, u] w fun e w' => e = .returned (.int .i64 0) ∧ MeC 64 67 w' FP p (M.ld k o l) v B C ∧ Kp FP w w' := by
  have HST := stretch_hit h hs
  have hcm := h.cv
  have HK : Hid (k < M.n) := Lib.hid hs.1
  have HO : Hid (o + l.length ≤ M.S k) := Lib.hid hs.2.2.2
  obtain ⟨sp, cap, rfl, hcap, hpos⟩ := hb
  obtain ⟨a, cap', hv, _⟩ := own_form h.ars
  by_cases h0 : l = []
  · subst h0
    have HN : Hid (∀ q, (Builtin.copy_ #[22, 22] 3 #[.slice (some ⟨B k, 0, none⟩) 0 0, .slice sp 0 cap]).run Try.prog (w.drewN q) = .ok (goInt 0) (w.drewN q)) := Lib.hid (fun q => run_copy_none (P := Try.prog) (w.drewN q) 22 22 3 5 _ _ _ _ _ _ rfl rfl rfl)
    have HST2 := Lib.hid HST
    have H := Lib.hid h
    clear HST h hs hl hpos hcap
    subst hv
    rw [show (([] : List Nat).length) = 0 from rfl] at HST2 ⊢; rw [show ((0 : Nat) : Int) = 0 from rfl] at *; rw [if_pos rfl] at HST2
    go_enter Try.func8, Try.ntmps8
    go_wp2_with (go_at_call 25; refine HST2.out.mono ?_; rintro e w' ⟨rfl, q, rfl⟩)
    rw [HN.out]
    go_wp2
    go_ret
    exact ⟨rfl, H.out.past (below_drewN (Below.refl _ _) _), Kp.of_below (below_drewN (Below.refl _ _) _)⟩
  · have hlen : 0 < l.length := by cases l with | nil => exact absurd rfl h0 | cons => simp
    obtain ⟨ad, rfl, _, hsrc⟩ := hpos hlen
    obtain ⟨m, hm⟩ : ∃ m, l.length = m := ⟨_, rfl⟩
    have HM : Hid (l.length = m) := Lib.hid hm
    have HN : Hid (∀ q, (Builtin.copy_ #[22, 22] 3 #[.slice (some ⟨B k, o, none⟩) m m, .slice (some ad) m cap]).run Try.prog (w.drewN q) = .ok (.int .i64 m) ((w.drewN q).setCells (B k) o (l.map fun c => .int .u8 (c : Nat)))) := Lib.hid (fun q => by
      have h3 := h.past (below_drewN (Below.refl _ _) q)
      have := run_copy_cells (P := Try.prog) (w.drewN q) 22 22 3 5 (B k) o m m ad m cap (l.map fun c => Value.int .u8 (c : Nat)) rfl rfl (by simp [hm]) (fun j u hj => by
        rw [List.getElem?_map] at hj
        cases hc : l[j]? with
        | none => rw [hc] at hj; cases hj
        | some c =>
          rw [hc] at hj
          injection hj with hj
          subst hj
          rw [show (w.drewN q).cell? (ad.add j) = w.cell? (ad.add j) from by simp]
          exact hsrc j c hc) (fun j hj => by rw [h3.cell hs.1 (show o + j < M.S k by simp at hj; have := hs.2.2.2; omega)]; rfl) (fun j hj => h3.frz _ hs.1) (fun u hu => by
        obtain ⟨c, _, rfl⟩ := List.mem_map.1 hu
        rfl)
      rw [this, List.length_map, hm]
      rfl)
    have HF : Hid (∀ q, MeC 64 67 ((w.drewN q).setCells (B k) o (l.map fun c => .int .u8 (c : Nat))) FP p (M.ld k o l) v B C ∧ Kp FP w ((w.drewN q).setCells (B k) o (l.map fun c => .int .u8 (c : Nat)))) := Lib.hid (fun q =>
      ⟨MeC.lds (by decide) (by decide) l o _ _ (h.past (below_drewN (Below.refl _ _) q)) hs.1 hs.2.2.2 hl, (Kp.of_below (FP := FP) (below_drewN (Below.refl w.heap.size w) q)).trans (Kp.of_grown (FP := FP) (setCells_grown _ _ _ _) (fun b hb => by injection hb with hb; subst hb; exact h.fb k hs.1)) fun _ hf => .inl hf⟩)
    have hm0 : ¬ m = 0 := by omega
    rw [hm] at HST hcap ⊢
    rw [if_neg hm0] at HST
    have HST2 := Lib.hid HST
    clear HST h hs hl hsrc hm h0 hlen HK HO
    subst hv
    go_enter Try.func8, Try.ntmps8
    go_wp2_with (go_at_call 25; refine HST2.out.mono ?_; rintro e w' ⟨rfl, q, rfl⟩)
    rw [HN.out]
    go_wp2
    go_ret
    exact ⟨rfl, HF.out q⟩
set_option maxRecDepth 100000 in
set_option maxHeartbeats 4000000 in
theorem load_n (h : MeC 64 67 w FP p M v B C) {x : Nat} {l : List Nat} {u : Value} (hx : x < 18446744073709551616) (hno : ∀ k o, ¬ Hs M x l.length k o) (hb : Bys w u l) (hl : l.length ≤ 9223372036854775807) :
    Calls Try.prog 8 #[.pointer (some ⟨p, 0, none⟩), .int .u64 x, u] w fun e w' => e = .returned (.int .i64 8) ∧ ∃ q, w' = w.drewN q := by
  have HST := Lib.hid (stretch_miss h (m := l.length) hx (by omega) (fun k o K hK => by
    obtain rfl : K = l.length := by omega
    exact hno k o))
  have hcm := h.cv
  obtain ⟨sp, cap, rfl, hcap, hpos⟩ := hb
  obtain ⟨a, cap', hv, _⟩ := own_form h.ars
  subst hv
  clear h hno hpos
  go_enter Try.func8, Try.ntmps8
  go_wp2_with (go_at_call 25; refine HST.out.mono ?_; rintro e w' ⟨rfl, q, rfl⟩)
  go_ret
  exact ⟨rfl, _, rfl⟩
end
set_option maxRecDepth 100000 in
set_option maxHeartbeats 4000000 in
theorem clone_b (w : World) (u : Value) (l : List Nat) (hb : Bys w u l) (hn : l.length ≤ 16777216) :
    Calls Try.prog 72 #[u] w fun e w' => (∃ v', e = .returned v' ∧ w'.ownsRow w.heap.size 5 1 v' l.length (l.map fun c => .int .u8 (c : Nat))) ∧ Below w.heap.size w w' := by
  have HB0 : Hid (Bys (w.alloc (.cells #[] 5)) u l) := Lib.hid (hb.past ((Below.refl _ _).alloc (Nat.le_refl _) _))
  obtain ⟨sp, cap, rfl, hcap, hpos⟩ := hb
  cases sp with
  | none =>
    have h0 : l = [] := by
      cases l with
      | nil => rfl
      | cons c l => obtain ⟨ad, h, _⟩ := hpos (by simp); cases h
    subst h0
    have hnil := fun W => Lib.run_eql_slice_nil (P := Try.prog) W 22 5 none 0 cap 0 0 Try.underlying22
    go_enter Try.func72, Try.ntmps72
    go_wp2
    go_ret
    exact ⟨⟨_, rfl, ⟨rfl, .inl ⟨rfl, rfl⟩⟩⟩, Below.refl _ _⟩
  | some ad =>
    have HO : Hid ((w.alloc (.cells #[] 5)).ownsRow w.heap.size 5 1 (.slice (some ⟨w.heap.size, 0, none⟩) 0 0) 0 []) := Lib.hid (World.ownsRow_made w #[] 0 (Nat.le_refl _) (by unfold maxLen; omega) rfl)
    have HN : Hid (∀ j u, (l.map fun c => Value.int .u8 (c : Nat))[j]? = some u → (w.alloc (.cells #[] 5)).cell? (ad.add j) = some u) := Lib.hid (fun j u hj => by
      rw [List.getElem?_map] at hj
      cases hc : l[j]? with
      | none => rw [hc] at hj; cases hj
      | some c =>
        rw [hc] at hj
        injection hj with hj
        subst hj
        obtain ⟨sp', cap', e1, _, h2⟩ := HB0.out
        obtain ⟨ad', e2, _, h3⟩ := h2 (by have := (List.getElem?_eq_some_iff.1 hc).1; omega)
        injection e1 with e1
        rw [e2] at e1
        injection e1 with e1
        subst e1
        exact h3 j c hc)
    have H1 : Hid (∀ u ∈ (l.map fun c => Value.int .u8 (c : Nat)), u.oneCell' = true) := Lib.hid (fun u hu => by obtain ⟨c, _, rfl⟩ := List.mem_map.1 hu; rfl)
    have HL : Hid ((l.map fun c => Value.int .u8 (c : Nat)).length = l.length * 1) := Lib.hid (by simp)
    obtain ⟨cs, hcs⟩ : ∃ cs, (l.map fun c => Value.int .u8 (c : Nat)) = cs := ⟨_, rfl⟩
    rw [hcs] at HN H1 HL ⊢
    obtain ⟨m, hm⟩ : ∃ m, l.length = m := ⟨_, rfl⟩
    rw [hm] at HL hn hcap ⊢
    clear hcs hm hpos HB0
    obtain ⟨i0, hi, hz0, hz1, hz2⟩ := info_parts info5z
    have hnil := fun W => Lib.run_eql_slice_nil (P := Try.prog) W 22 5 (some ad) m cap 0 0 Try.underlying22
    go_enter Try.func72, Try.ntmps72
    go_wp2_with (at_builtin; refine wpList_append_own _ rfl _ _ 22 rfl w.heap.size 5 i0 _ 1 1 Try.underlying22 hi hz0 hz1 hz2 rfl (by decide) _ 0 [] rfl HO.out ad m cap cs rfl HL.out HN.out H1.out (by unfold maxLen; omega) (by omega) (by simp) ?_)
    intro v' w1 hown1 hgrow hne
    have HB : Hid (Below w.heap.size w w1) := Lib.hid (((Below.refl _ _).alloc (Nat.le_refl _) _).trans ⟨hgrow.os, hgrow.tape, hgrow.output, hgrow.size, fun x hx => hgrow.block x (by simp; omega) (by simp [Value.ownBlock]; omega)⟩)
    have HO2 : Hid (w1.ownsRow w.heap.size 5 1 v' m cs) := Lib.hid (by simpa using hown1)
    clear hown1 hgrow hne
    go_wp2
    go_ret
    exact ⟨⟨_, rfl, HO2.out⟩, HB.out⟩
/-- So many bytes from a place on. -/
def Me.cut (M : Me) (k o m : Nat) : List Nat := (List.range m).map fun i => M.y k (o + i)
theorem cut_len (M : Me) (k o m : Nat) : (M.cut k o m).length = m := by unfold Me.cut; simp
section
variable {w : World} {FP : Nat → Prop} {p : Nat} {M : Me} {v : Value} {B C : Nat → Nat}
theorem MeC.bys (h : MeC 64 67 w FP p M v B C) {x k o m cap : Nat} (hs : Hs M x m k o) (hc : m ≤ cap) : Bys w (.slice (some ⟨B k, if m = 0 then 0 else o, none⟩) m cap) (M.cut k o m) := by
  refine ⟨_, cap, by rw [cut_len], by rw [cut_len]; exact hc, fun h0 => ⟨_, rfl, h.fl _ (h.fb k hs.1), fun j c hj => ?_⟩⟩
  rw [cut_len] at h0
  have hj1 := (List.getElem?_eq_some_iff.1 hj).1
  rw [cut_len] at hj1
  unfold Me.cut at hj
  rw [List.getElem?_map, List.getElem?_range hj1] at hj
  injection hj with hj
  subst hj
  rw [if_neg (by omega)]
  have : (⟨B k, o, none⟩ : Addr).add j = ⟨B k, o + j, none⟩ := by unfold Addr.add; split <;> simp_all
  rw [this]
  exact h.cell hs.1 (by have := hs.2.2.2; omega)
set_option maxRecDepth 100000 in
set_option maxHeartbeats 4000000 in
theorem copy_y (h : MeC 64 67 w FP p M v B C) {x k o m : Nat} (hs : Hs M x m k o) :
    Calls Try.prog 62 #[.pointer (some ⟨p, 0, none⟩), .int .u64 x, .int .i64 m] w fun e w' => (∃ v', e = .returned (.tuple #[v', .int .i64 0]) ∧ w'.ownsRow w.heap.size 5 1 v' m ((M.cut k o m).map fun c => .int .u8 (c : Nat))) ∧ Below w.heap.size w w' := by
  have HST := Lib.hid (stretch_hit h hs)
  have hcm := h.cv
  have HCL : Hid (∀ q, Calls Try.prog 72 #[.slice (some ⟨B k, if m = 0 then 0 else o, none⟩) m m] (w.drewN q) fun e w' => (∃ v', e = .returned v' ∧ w'.ownsRow w.heap.size 5 1 v' m ((M.cut k o m).map fun c => .int .u8 (c : Nat))) ∧ Below w.heap.size (w.drewN q) w') := Lib.hid (fun q => by
    have := clone_b (w.drewN q) _ _ ((h.past (below_drewN (Below.refl _ _) q)).bys (cap := m) hs (Nat.le_refl _)) (by rw [cut_len]; exact (hs.lt h.ok).2)
    rw [cut_len] at this
    simpa using this)
  obtain ⟨a, cap', rfl, _⟩ := own_form h.ars
  clear h hs
  obtain ⟨z, hz⟩ : ∃ z, (if m = 0 then 0 else o) = z := ⟨_, rfl⟩
  rw [hz] at HST HCL
  clear hz
  go_enter Try.func62, Try.ntmps62
  go_wp2_with (first | (go_at_call 25; refine HST.out.mono ?_; rintro e w' ⟨rfl, q, rfl⟩) | (go_at_call 72; refine (HCL.out _).mono ?_; rintro e w' ⟨⟨v', rfl, ho⟩, hb⟩; have HO := Lib.hid ho; have HB := Lib.hid hb; clear ho hb))
  refine bodyPost_ret (v := .tuple #[v', .int .i64 0]) (by simp [results, Try.results62, go_sem]) rfl ⟨⟨_, rfl, HO.out⟩, (below_drewN (Below.refl _ _) _).trans HB.out⟩
set_option maxRecDepth 100000 in
set_option maxHeartbeats 4000000 in
theorem copy_n (h : MeC 64 67 w FP p M v B C) {x : Nat} {m : Int} (hx : x < 18446744073709551616) (hm : m ≤ 9223372036854775807) (hno : ∀ k o K : Nat, m = K → ¬ Hs M x K k o) :
    Calls Try.prog 62 #[.pointer (some ⟨p, 0, none⟩), .int .u64 x, .int .i64 m] w fun e w' => e = .returned (.tuple #[.slice none 0 0, .int .i64 8]) ∧ ∃ q, w' = w.drewN q := by
  have HST := Lib.hid (stretch_miss h hx hm hno)
  have hcm := h.cv
  obtain ⟨a, cap', rfl, _⟩ := own_form h.ars
  clear h hno
  go_enter Try.func62, Try.ntmps62
  go_wp2_with (go_at_call 25; refine HST.out.mono ?_; rintro e w' ⟨rfl, q, rfl⟩)
  refine bodyPost_ret (v := .tuple #[.slice none 0 0, .int .i64 8]) (by simp [results, Try.results62, go_sem]) rfl ⟨rfl, _, rfl⟩
end
end Go.Proofs.Ytjcbhomfggjmhaa.Mm
