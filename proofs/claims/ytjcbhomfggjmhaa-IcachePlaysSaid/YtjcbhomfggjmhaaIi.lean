import Derived.Test.YtjcbhomfggjmhaaIh
import Derived.Maps.RangeWalk
namespace Go.Proofs.Ytjcbhomfggjmhaa.Mm
open Go.ChangeShapes Go.WideShapes Go.ChangeAt Go.RowKit Go.Maps
set_option linter.unusedVariables false
theorem nat_of_wf64' {z : Int} (h : (Lit.int .u64 z).wf = true) : ∃ n : Nat, z = n ∧ n < 18446744073709551616 := by
  simp [Lit.wf, IntKind.min, IntKind.max, IntKind.signed, IntKind.bits] at h
  exact ⟨z.toNat, by omega, by omega⟩
set_option maxRecDepth 100000 in
/-- What reads as a key is a core and a place. -/
theorem key_inv {key : Value} {l : Lit} (h : keyOf Try.prog 100 key = some l) : ∃ c a, key = pk c a ∧ Okk c a := by
  obtain ⟨fs, hu⟩ : ∃ fs, Try.prog.underlying 100 = some (.struct fs) := ⟨_, Try.underlying100⟩
  have h2 : (if Try.prog.keyType 100 && key.formed Try.prog 100 then (Try.prog.keyLits (Try.prog.types.size + 1) 100 key.cells.toList).map fun ls => Lit.string (keyBytes ls) else none) = some l := by
    unfold keyOf at h
    rw [hu] at h
    exact h
  split at h2
  · rename_i hf
    simp only [Bool.and_eq_true] at hf
    obtain ⟨_, hf⟩ := hf
    obtain ⟨d, hd⟩ : ∃ d, Try.prog.types.size = d + 1 := ⟨Try.prog.types.size - 1, by have := row195; have : (100 : Nat) < Try.prog.types.size := this; omega⟩
    rw [hd] at h2
    cases key with
    | agg cs =>
      have hcs : cs.size = 2 := by simpa [Value.formed, hu, cells195] using hf
      obtain ⟨l⟩ := cs
      match l, hcs with
      | [v0, v1], _ =>
        have hc : (Value.agg #[v0, v1]).cells.toList = [v0, v1] := by simp [Value.cells]
        rw [hc] at h2
        cases v0 with
        | int q0 n0 =>
          cases v1 with
          | int q1 n1 =>
            simp [Program.keyLits, Try.underlying100, Try.underlying3, Try.underlying35, cells195, cells3, cells23] at h2
            split at h2
            · rename_i h3
              by_cases h4 : q1 = IntKind.u64 ∧ (Lit.int IntKind.u64 n1).wf = true
              · obtain ⟨rfl, w0⟩ := h3
                obtain ⟨rfl, w1⟩ := h4
                obtain ⟨a, rfl, ha⟩ := nat_of_wf64' w1
                refine ⟨n0, a, rfl, ?_⟩
                simp [Lit.wf, IntKind.min, IntKind.max, IntKind.signed, IntKind.bits] at w0
                exact ⟨by omega, by omega, ha⟩
              · rw [if_neg h4] at h2
                cases h2
            · cases h2
          | _ => exfalso; simp [Program.keyLits, Try.underlying100, Try.underlying3, Try.underlying35, cells195, cells3, cells23] at h2
        | _ => exfalso; simp [Program.keyLits, Try.underlying100, Try.underlying3, Try.underlying35, cells195, cells3, cells23] at h2
    | _ => simp [Value.formed, hu] at hf
  · cases h2
/-- The map as it is while its entries of one core are struck. -/
def SyF (F : Int → Nat → Option Nat) (c : Int) (left : Lit → Bool) (D : DataW Unit) : Prop := ∀ c' a, Okk c' a → look D c' a = if c' = c ∧ left (kl c' a) = false then none else F c' a
theorem kl_str {c : Int} {a : Nat} (h : Okk c a) : ∃ b, kl c a = .string b := by
  have h1 := kl_eq h
  obtain ⟨fs, hu⟩ : ∃ fs, Try.prog.underlying 100 = some (.struct fs) := ⟨_, Try.underlying100⟩
  have h2 : (if Try.prog.keyType 100 && (pk c a).formed Try.prog 100 then (Try.prog.keyLits (Try.prog.types.size + 1) 100 (pk c a).cells.toList).map fun ls => Lit.string (keyBytes ls) else none) = some (kl c a) := by
    unfold keyOf at h1
    rw [hu] at h1
    exact h1
  split at h2
  · cases hk : Try.prog.keyLits (Try.prog.types.size + 1) 100 (pk c a).cells.toList with
    | none => rw [hk] at h2; cases h2
    | some ls => rw [hk] at h2; injection h2 with h2; exact ⟨_, h2.symm⟩
  · cases h2
theorem sameKey_kl {c c' : Int} {a a' : Nat} (h : Okk c a) (h' : Okk c' a') (hne : ¬ (c' = c ∧ a' = a)) : (kl c' a').sameKey (kl c a) = false := Maps.sameKey_ne (kl_ne h h' hne)
theorem SyF.start {F : Int → Nat → Option Nat} {c : Int} {D : DataW Unit} (h : ∀ c a, Okk c a → look D c a = F c a) : SyF F c (Maps.has D) D := fun c' a hk => by
  rw [← h c' a hk]
  by_cases e : c' = c ∧ Maps.has D (kl c' a) = false
  · rw [if_pos e]
    unfold look
    rw [e.2, if_neg (by decide)]
  · rw [if_neg e]
theorem SyF.struck {F : Int → Nat → Option Nat} {c : Int} {left : Lit → Bool} {D : DataW Unit} (h : SyF F c left D) {a : Nat} (hk : Okk c a) : SyF F c (fun z => left z && !z.sameKey (kl c a)) (D.del (kl c a)) := fun c' a' hk' => by
  by_cases e : c' = c ∧ a' = a
  · obtain ⟨rfl, rfl⟩ := e
    have h1 : (kl c' a').sameKey (kl c' a') = true := by obtain ⟨b, hb⟩ := kl_str hk'; rw [hb]; simp [Lit.sameKey]
    rw [if_pos ⟨rfl, by simp only [h1]; simp⟩]
    unfold look
    rw [Maps.has_del_same, if_neg (by decide)]
  · have h1 := sameKey_kl hk hk' e
    have h2 : look (D.del (kl c a)) c' a' = look D c' a' := by
      unfold look
      rw [Maps.has_del_other (kl_ne hk hk' e), Maps.atKey_del_other (kl_ne hk hk' e)]
    rw [h2, h c' a' hk']
    simp only [h1, Bool.not_false, Bool.and_true]
theorem SyF.stays {F : Int → Nat → Option Nat} {c c0 : Int} {left : Lit → Bool} {D : DataW Unit} (h : SyF F c left D) {a : Nat} (hk : Okk c0 a) (hne : c0 ≠ c) : SyF F c (fun z => left z && !z.sameKey (kl c0 a)) D := fun c' a' hk' => by
  rw [h c' a' hk']
  by_cases e : c' = c0 ∧ a' = a
  · obtain ⟨rfl, rfl⟩ := e
    rw [if_neg (fun h => hne h.1), if_neg (fun h => hne h.1)]
  · have h1 := sameKey_kl hk hk' e
    simp only [h1, Bool.not_false, Bool.and_true]
def syncH (F : Int → Nat → Option Nat) (c : Int) : Int → Nat → Option Nat := fun c' a => if c' = c then none else F c' a
theorem SyF.done {F : Int → Nat → Option Nat} {c : Int} {left : Lit → Bool} {D : DataW Unit} (h : SyF F c left D) (h0 : ∀ z, left z = false) : ∀ c' a, Okk c' a → look D c' a = syncH F c c' a := fun c' a hk => by
  rw [h c' a hk]
  unfold syncH
  by_cases e : c' = c
  · rw [if_pos ⟨e, h0 _⟩, if_pos e]
  · rw [if_neg (fun h => e h.1), if_neg e]
def Sd.sync (S : Sd) (c : Int) : Sd := if isC S c then { S with H := syncH S.H c } else S
section
variable {w : World} {lo : Nat → Prop} {p : Nat} {L : Pl} {V : Nat → Value} {S : Sd}
set_option maxRecDepth 100000 in
set_option maxHeartbeats 8000000 in
theorem sync_c (h : SdC w lo p L V S) (c : Int) : Calls Try.prog 39 #[.pointer (some ⟨p, 0, none⟩), .int .i64 c] w fun e w' => e = .returned (.int .i64 (if isC S c then 0 else 1 : Nat)) ∧ SdC w' lo p L V (S.sync c) ∧ Sv lo w w' := by
  have HI := Lib.hid (isCore_c h c)
  have H := Lib.hid h
  by_cases hc : isC S c
  · have d : decide (isC S c) = true := decide_eq_true hc
    have HV : Hid (S.sync c = { S with H := syncH S.H c }) := Lib.hid (if_pos hc)
    have HC : Hid ((if isC S c then 0 else 1 : Nat) = 0) := Lib.hid (if_pos hc)
    rw [HC.out]
    rw [d] at HI
    have c3 := h.cells.2.2.2.1
    obtain ⟨D0, hown, hlook⟩ := h.mh
    have HOW := Lib.hid hown
    have HSY := Lib.hid (SyF.start (c := c) hlook)
    obtain ⟨es0, ck0, hhp⟩ := h.mh.heap
    have HPB : Hid (p ≠ L.bh) := Lib.hid (map_ne_cells hhp h.row)
    have HPL0 : Hid (p < w.heap.size) := Lib.hid h.pl
    clear h hc d HC hown hlook hhp
    go_enter Try.func39, Try.ntmps39
    go_wp2_with (first
      | (go_at_call 55; refine HI.out.mono ?_; rintro e w1 ⟨rfl, h1⟩; obtain rfl := h1.symm)
      | (at_range; refine wpList_range_own _ rfl _ 77 rfl 100 50 klaw Try.underlying77 _ L.bh S.N _ rfl HOW.out ?_; intro w0 hrg0 hg0 hs0))
    go_frame
    have HR0 := Lib.hid hrg0
    have HG0 := Lib.hid (hg0.but (some L.bh))
    clear hrg0 hg0 hs0 c3
    go_loopw [5] (fun _ wr => ∃ (left : Lit → Bool) (cnt : Nat) (D : DataW Unit), Hid (wr.ranges Try.prog 100 (plainElem Try.prog 50) L.bh w.heap.size S.N D left cnt) ∧ Hid (SyF S.H c left D) ∧ Hid (w.grownBy wr (some L.bh))) (fun _ wr => wr.rangeLeft L.bh w.heap.size)
    case atStart => exact ⟨_, _, D0, HR0, HSY, HG0⟩
    case round =>
      obtain ⟨left, cnt, D, HR, HS, HG⟩ := hrel
      have HLQ := Lib.hid HR.out.left_eq
      go_wp2_with (at_next; refine wpList_next_ranges _ rfl _ rfl 100 klaw (plainElem Try.prog 50) (fun x : Int × Nat => Value.agg #[.int .i64 x.1, .int .u64 (x.2 : Nat)]) (Value.int .u32) (fun key l hkey => by obtain ⟨c, a, rfl, _⟩ := key_inv hkey; exact ⟨(c, a), rfl⟩) (fun v y hv => by obtain ⟨c, rfl, _⟩ := plainElem_int_inv Try.underlying50 hv; exact ⟨c, rfl⟩) L.bh w.heap.size S.N _ _ _ rfl HR.out ?_ ?_)
      · intro _ hl0
        have HL0 := Lib.hid hl0
        clear hl0
        go_wp2
        go_ret
        exact ⟨rfl, by rw [HV.out]; exact H.out.setH (Nat.le_refl _) ⟨D, HR.out.owns, HS.out.done HL0.out⟩ HG.out, H.out.gb HG.out H.out.lh⟩
      · intro k1 k2 y kk y1 y2 w1 cnt1 hkey hlx hyy hat hrg1 hlt hg1 hs1 hen
        have hkey : keyOf Try.prog 100 (pk k1 k2) = some kk := hkey
        have hokk : Okk k1 k2 := by
          obtain ⟨c', a', e, ho⟩ := key_inv hkey
          unfold pk at e
          simp at e
          obtain ⟨rfl, e⟩ := e
          rw [show k2 = a' by omega]
          exact ho
        obtain rfl : kk = kl k1 k2 := by rw [kl_eq hokk] at hkey; injection hkey with hkey; exact hkey.symm
        have hen : (Instr.entry (.pointer (some ⟨w.heap.size, 0, none⟩))).run Try.prog w1 = .ok (.tuple #[.agg #[.int .i64 k1, .int .u64 (k2 : Nat)], .int .u32 y]) w1 := hen
        have HKK := Lib.hid hokk
        have HR1 := Lib.hid hrg1
        have HLT := Lib.hid hlt
        have HG1 := Lib.hid (HG.out.andThen hg1 (fun j hj => by cases hj; exact Or.inl (Nat.le_refl _)))
        clear hkey hlx hyy hat hrg1 hlt hg1 hs1 hokk
        by_cases hkc : k1 = c
        · have q1 : (k1 == c) = true := by simpa using hkc
          have HKC := Lib.hid hkc
          clear hkc
          go_upto_region 7 with (fail)
          have HWa : Hid (Below w1.heap.size w1 (w1.alloc (.cells #[.int .i64 k1, .int .u64 (k2 : Nat)] 100)).drew) := Lib.hid (below_drewN ((Below.refl _ _).alloc (Nat.le_refl _) _) 1)
          have HRa : Hid ((w1.alloc (.cells #[.int .i64 k1, .int .u64 (k2 : Nat)] 100)).drew.ranges Try.prog 100 (plainElem Try.prog 50) L.bh w.heap.size S.N D (fun z => left z && !z.sameKey (kl k1 k2)) cnt1) := Lib.hid (HR1.out.alloc _)
          have hga := HG1.out.andThen (World.grownBy_alloc w1 (.cells #[.int .i64 k1, .int .u64 (k2 : Nat)] 100) none) (fun j hj => by cases hj)
          have HGa : Hid (w.grownBy (w1.alloc (.cells #[.int .i64 k1, .int .u64 (k2 : Nat)] 100)).drew (some L.bh)) := Lib.hid ⟨hga.os, hga.tape, hga.output, hga.size, hga.block⟩
          have hw1 := HG1.out.size
          have hbhl := H.out.mh.lt
          have HBB : Hid (w1.heap.size ≠ L.bh) := Lib.hid (by omega)
          have HBL : Hid (w1.heap.size < (w1.alloc (.cells #[.int .i64 k1, .int .u64 (k2 : Nat)] 100)).drew.heap.size) := Lib.hid (by simp)
          have HPL : Hid (p < (w1.alloc (.cells #[.int .i64 k1, .int .u64 (k2 : Nat)] 100)).drew.heap.size) := Lib.hid (by have := HPL0.out; simp; omega)
          have HSS : Hid ((w1.alloc (.cells #[.int .i64 k1, .int .u64 (k2 : Nat)] 100)).drew.cell? ⟨p, 3, none⟩ = some (.map (some L.bh)) ∧ (w1.alloc (.cells #[.int .i64 k1, .int .u64 (k2 : Nat)] 100)).drew.cell? ⟨w1.heap.size, 0, none⟩ = some (.int .i64 k1) ∧ (w1.alloc (.cells #[.int .i64 k1, .int .u64 (k2 : Nat)] 100)).drew.cell? ⟨w1.heap.size, 1, none⟩ = some (.int .u64 (k2 : Nat))) := Lib.hid ⟨(HGa.out.cell_far ⟨p, 3, none⟩ HPL0.out (fun e => by injection e with e; exact HPB.out e)).trans H.out.cells.2.2.2.1, World.cell?_alloc_at _ _ _ _ rfl, World.cell?_alloc_at _ _ _ _ rfl⟩
          obtain ⟨bx, hbx⟩ : ∃ bx, w1.heap.size = bx := ⟨_, rfl⟩
          rw [hbx] at HBB HBL HSS ⊢
          clear hga hw1 hbhl hbx HWa
          generalize w1.alloc (.cells #[.int .i64 k1, .int .u64 (k2 : Nat)] 100) = Wa at HRa HGa HBL HPL HSS ⊢
          obtain ⟨w3, cnt2, hrun, hrg2, hle2, hturn⟩ := HRa.out.drop klaw Try.underlying77 (kl_eq HKK.out) 0
          have hrun : (Builtin.delete_ #[77, 100] 0 #[.map (some L.bh), .agg #[.int .i64 k1, .int .u64 (k2 : Nat)]]).run Try.prog Wa.drew = .ok (.tuple #[]) w3 := hrun
          rw [Maps.strike_twice] at hrg2
          have HRG2 := Lib.hid hrg2
          have HLE2 := Lib.hid hle2
          have HGW2 := Lib.hid (HGa.out.andThen hturn.grown (fun j hj => .inr hj))
          have HTU := Lib.hid hturn.grown
          have HS3 : Hid (w3.cell? ⟨p, 3, none⟩ = some (.map (some L.bh)) ∧ w3.cell? ⟨bx, 0, none⟩ = some (.int .i64 k1) ∧ w3.cell? ⟨bx, 1, none⟩ = some (.int .u64 (k2 : Nat))) := Lib.hid ⟨(HTU.out.cell_far ⟨p, 3, none⟩ HPL.out (fun e => by injection e with e; exact HPB.out e)).trans HSS.out.1, (HTU.out.cell_far ⟨bx, 0, none⟩ HBL.out (fun e => by injection e with e; exact HBB.out e)).trans HSS.out.2.1, (HTU.out.cell_far ⟨bx, 1, none⟩ HBL.out (fun e => by injection e with e; exact HBB.out e)).trans HSS.out.2.2⟩
          clear hrg2 hle2 hturn
          refine wp_region_held_drew (S := fun w' => (w'.cell? ⟨p, 3, none⟩ = some (.map (some L.bh)) ∧ w'.cell? ⟨bx, 0, none⟩ = some (.int .i64 k1) ∧ w'.cell? ⟨bx, 1, none⟩ = some (.int .u64 (k2 : Nat)))) (by kernel_rfl) HSS.out (fun hHeld => ?_)
          refine wpAnyH_take (i := 0) (oi := { dst := some 23, op := Go.Op.move (Go.Operand.tmp 0), type := 37, pos := "icache.go:204", after := #[], guard := none }) (v := ?_) rfl (by kernel_rfl) (by kernel_rfl) (by kernel_rfl) (fun _ _ _ h => h) (Or.inl ⟨by rfl, ?_⟩) (by assumption) ?_
          rotate_left
          · (intro w0 hSw; (try dsimp only at hSw); go_split_ands; go_simp; with_reducible rfl)
          try simp only [Act.put, List.setIfInBounds_toArray, List.set_cons_zero, List.set_cons_succ]
          refine wpAnyH_take (i := 1) (oi := { dst := some 24, op := Go.Op.nilCheck (Go.Operand.tmp 23), type := 0, pos := "icache.go:204", after := #[{ on := 0, ground := Go.Ground.data }], guard := none }) (v := ?_) rfl (by kernel_rfl) (by kernel_rfl) (by kernel_rfl) (fun _ _ _ h => h) (Or.inl ⟨by rfl, ?_⟩) (by assumption) ?_
          rotate_left
          · (intro w0 hSw; (try dsimp only at hSw); go_split_ands; go_simp; with_reducible rfl)
          try simp only [Act.put, List.setIfInBounds_toArray, List.set_cons_zero, List.set_cons_succ]
          refine wpAnyH_take (i := 2) (oi := { dst := some 25, op := Go.Op.fieldAddr 80 (Go.Operand.tmp 24) 3, type := 0, pos := "icache.go:204", after := #[{ on := 1, ground := Go.Ground.data }], guard := none }) (v := ?_) rfl (by kernel_rfl) (by kernel_rfl) (by kernel_rfl) (fun _ _ _ h => h) (Or.inl ⟨by rfl, ?_⟩) (by assumption) ?_
          rotate_left
          · (intro w0 hSw; (try dsimp only at hSw); go_split_ands; go_simp; with_reducible rfl)
          try simp only [Act.put, List.setIfInBounds_toArray, List.set_cons_zero, List.set_cons_succ]
          refine wpAnyH_take (i := 3) (oi := { dst := some 26, op := Go.Op.load 77 (Go.Operand.tmp 25), type := 77, pos := "icache.go:204", after := #[{ on := 2, ground := Go.Ground.data }], guard := none }) (v := ?_) rfl (by kernel_rfl) (by kernel_rfl) (by kernel_rfl) (fun _ _ _ h => h) (Or.inl ⟨by rfl, ?_⟩) (by assumption) ?_
          rotate_left
          · (intro w0 hSw; (try dsimp only at hSw); go_split_ands; go_simp; with_reducible rfl)
          try simp only [Act.put, List.setIfInBounds_toArray, List.set_cons_zero, List.set_cons_succ]
          refine wpAnyH_take (i := 4) (oi := { dst := some 27, op := Go.Op.load 100 (Go.Operand.tmp 5), type := 100, pos := "icache.go:204", after := #[], guard := none }) (v := ?_) rfl (by kernel_rfl) (by kernel_rfl) (by kernel_rfl) (fun _ _ _ h => h) (Or.inl ⟨by rfl, ?_⟩) (by assumption) ?_
          rotate_left
          · (intro w0 hSw; (try dsimp only at hSw); go_split_ands; go_simp; with_reducible rfl)
          try simp only [Act.put, List.setIfInBounds_toArray, List.set_cons_zero, List.set_cons_succ]
          refine wpAnyH_ready (rs := [5]) (by kernel_rfl) (by simp) ?_
          refine AllReadyH.cons (o := { dst := none, op := Go.Op.call { callee := Go.Callee.builtin Go.Builtin.delete, args := #[Go.Operand.tmp 26, Go.Operand.tmp 27], argTypes := #[77, 100] }, type := 0, pos := "icache.go:204", after := #[{ on := 3, ground := Go.Ground.data }, { on := 4, ground := Go.Ground.data }], guard := none }) rfl (fun K hK => ?_) AllReadyH.nil
          go_simp
          refine hK.out _ _ HS3.out (fun hHeld => ?_)
          clear hK K
          try simp only [Act.put, List.setIfInBounds_toArray, List.set_cons_zero, List.set_cons_succ]
          refine wpAnyH_done (by kernel_rfl) ?_ _
          clear hHeld
          go_wp2
          refine ⟨⟨_, cnt2, _, HRG2, Lib.hid (by have := HS.out.struck (a := k2) (by rw [← HKC.out]; exact HKK.out); rw [← HKC.out] at this ⊢; exact this), HGW2⟩, ?_⟩
          rw [HRG2.out.left_eq, HLQ.out]
          have := HLE2.out
          have := HLT.out
          omega
        · have q1 : (k1 == c) = false := by simpa using hkc
          have HKC := Lib.hid hkc
          clear hkc
          go_wp2
          refine ⟨⟨_, cnt1, D, Lib.hid (HR1.out.alloc _), Lib.hid (HS.out.stays HKK.out HKC.out), Lib.hid (HG1.out.andThen (World.grownBy_alloc _ _ none) (fun j hj => by cases hj))⟩, ?_⟩
          rw [(HR1.out.alloc _).left_eq, HLQ.out]
          exact HLT.out
  · have d : decide (isC S c) = false := decide_eq_false hc
    have HV : Hid (S.sync c = S) := Lib.hid (if_neg hc)
    have HC : Hid ((if isC S c then 0 else 1 : Nat) = 1) := Lib.hid (if_neg hc)
    rw [HC.out]
    rw [d] at HI
    clear h hc d HC
    go_enter Try.func39, Try.ntmps39
    go_wp2_with (go_at_call 55; refine HI.out.mono ?_; rintro e w1 ⟨rfl, h1⟩; obtain rfl := h1.symm)
    go_ret
    exact ⟨rfl, by rw [HV.out]; exact H.out, Sv.refl _ _⟩
end
end Go.Proofs.Ytjcbhomfggjmhaa.Mm
