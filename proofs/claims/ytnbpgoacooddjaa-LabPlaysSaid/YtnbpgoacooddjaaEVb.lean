import Derived.Test.YtnbpgoacooddjaaEVa
namespace Go.Proofs.Ytnbpgoacooddjaa.Fr
end Go.Proofs.Ytnbpgoacooddjaa.Fr
namespace Go.Proofs.Ytnbpgoacooddjaa.En
open Go.Proofs.Ytnbpgoacooddjaa.Fr
open Go.ChangeShapes Go.WideShapes Go.ChangeAt Go.RowKit Go.Maps
set_option linter.unusedVariables false
theorem info25 : (Try.prog.info? 54).map (fun i => (i.zero, i.size, i.bytes)) = some (some (.int .u32 0), 1, 4) := by kernel_rfl
theorem info_parts {P : Program} {t : TypeId} {z : Value} {s b : Nat} (h : (P.info? t).map (fun i => (i.zero, i.size, i.bytes)) = some (some z, s, b)) : ∃ i, P.info? t = some i ∧ i.zero = some z ∧ i.size = s ∧ i.bytes = b := by
  cases hq : P.info? t with
  | none => rw [hq] at h; cases h
  | some i =>
    rw [hq] at h
    injection h with h
    injection h with h1 h2
    injection h2 with h2 h3
    exact ⟨i, rfl, h1, h2, h3⟩
/-- n instructions that came in. -/
def InsAt (w : World) (b off n : Nat) (F : Nat → In) : Prop := ∀ k, k < n → w.cell? ⟨b, off + k * 7, none⟩ = some (.int .i64 (F k).op) ∧ w.cell? ⟨b, off + k * 7 + 1, none⟩ = some (.int .i64 (F k).d) ∧ w.cell? ⟨b, off + k * 7 + 2, none⟩ = some (.int .i64 (F k).n) ∧ w.cell? ⟨b, off + k * 7 + 3, none⟩ = some (.int .i64 (F k).m) ∧ w.cell? ⟨b, off + k * 7 + 4, none⟩ = some (.int .i64 (F k).a) ∧ w.cell? ⟨b, off + k * 7 + 5, none⟩ = some (.int .i64 (F k).c) ∧ w.cell? ⟨b, off + k * 7 + 6, none⟩ = some (.int .i64 (F k).i)
/-- The words of the first k. -/
def ws (F : Nat → In) (k : Nat) : List Value := (List.range k).map fun j => .int .u32 (F j).w
def good (F : Nat → In) (k : Nat) : Prop := ∀ j, j < k → (F j).e = 0
def WordsP (F : Nat → In) (n : Nat) (w : World) (r : Ending) (w' : World) : Prop :=
  ((good F n ∧ r = .returned (.tuple #[.slice (some ⟨w.heap.size, 0, none⟩) n n, .int .i64 0]) ∧ w'.ownsRow w.heap.size 54 1 (.slice (some ⟨w.heap.size, 0, none⟩) n n) n (ws F n)) ∨
   (¬ good F n ∧ r = .returned (.tuple #[.slice none 0 0, .int .i64 1]))) ∧ Below w.heap.size w w'
theorem row_lt {w : World} {base g n cp m size : Nat} {e : TypeId} {xs : List Value} (h : w.ownsRow base e size (.slice (some ⟨g, 0, none⟩) n cp) m xs) : g < w.heap.size := by
  rcases h.2 with ⟨h1, _⟩ | ⟨g', cap, cur, hv, hb, hg, _⟩
  · cases h1
  · injection hv with h1
    injection h1 with h1
    injection h1 with h1
    subst h1
    exact (Array.getElem?_eq_some_iff.1 hg).1
/-- A row stays where nothing below is turned. -/
theorem row_past {w w' : World} {base g n cp m size : Nat} {e : TypeId} {xs : List Value} (h : w.ownsRow base e size (.slice (some ⟨g, 0, none⟩) n cp) m xs) (hb : Below w.heap.size w w') : w'.ownsRow base e size (.slice (some ⟨g, 0, none⟩) n cp) m xs := by
  have hl := row_lt h
  refine ⟨h.1, ?_⟩
  rcases h.2 with ⟨h1, _⟩ | ⟨g', cap, cur, hv, hb', hg, hr⟩
  · cases h1
  · injection hv with h1 h2 h3
    injection h1 with h1
    injection h1 with h1
    subst h1 h3
    exact .inr ⟨g, cp, cur, by rw [h2], hb', (hb.block g hl).trans hg, hr⟩
theorem map_lt {w : World} {b n : Nat} {D : DataW Unit} (h : w.ownsMap Try.prog 3 (plainElem (H := Unit) Try.prog 54) b n D) : b < w.heap.size := by
  obtain ⟨es, clock, h1, h2⟩ := h
  exact (Array.getElem?_eq_some_iff.1 h1).1
/-- A map stays where another row grows. -/
theorem map_grown {w w' : World} {b n g : Nat} {D : DataW Unit} (h : w.ownsMap Try.prog 3 (plainElem (H := Unit) Try.prog 54) b n D) (hg : w.grownBy w' (some g)) (hne : b ≠ g) : w'.ownsMap Try.prog 3 (plainElem (H := Unit) Try.prog 54) b n D := by
  obtain ⟨es, clock, h1, h2⟩ := h
  exact ⟨es, clock, (hg.block b (Array.getElem?_eq_some_iff.1 h1).1 (by simpa using hne)).trans h1, h2⟩
theorem below_grown {w w' : World} {B g : Nat} (hg : w.grownBy w' (some g)) (hB : B ≤ g) (h2 : B ≤ w.heap.size) : Below B w w' :=
  ⟨hg.os, hg.tape, hg.output, hg.size, fun k hk => hg.block k (by omega) (by simp; omega)⟩
theorem below_made {w w' : World} (hg : w.grownBy w' none) : Below w.heap.size w w' :=
  ⟨hg.os, hg.tape, hg.output, hg.size, fun k hk => hg.block k hk (by simp)⟩
theorem InsAt.past {w w' : World} {b off n : Nat} {F : Nat → In} (h : InsAt w b off n F) (hb : b < w.heap.size) (hB : Below w.heap.size w w') : InsAt w' b off n F := fun k hk => by
  obtain ⟨c0, c1, c2, c3, c4, c5, c6⟩ := h k hk
  have g : ∀ i, w'.cell? ⟨b, i, none⟩ = w.cell? ⟨b, i, none⟩ := fun i => hB.cell (p := ⟨b, i, none⟩) hb
  exact ⟨(g _).trans c0, (g _).trans c1, (g _).trans c2, (g _).trans c3, (g _).trans c4, (g _).trans c5, (g _).trans c6⟩
/-- A slice of instructions that came in. -/
def SrcI (w : World) (A : Option Addr) (n : Nat) (F : Nat → In) : Prop := n = 0 ∨ ∃ b off, A = some ⟨b, off, none⟩ ∧ b < w.heap.size ∧ InsAt w b off n F
theorem SrcI.past {w w' : World} {A : Option Addr} {n : Nat} {F : Nat → In} (h : SrcI w A n F) (hB : Below w.heap.size w w') : SrcI w' A n F := by
  rcases h with h | ⟨b, off, hA, hb, hc⟩
  · exact .inl h
  · exact .inr ⟨b, off, hA, Nat.lt_of_lt_of_le hb hB.size, hc.past hb hB⟩
theorem one32 (v : Int) : ∀ u ∈ [Value.int .u32 v], u.oneCell' = true := by intro u hu; simp at hu; subst hu; rfl
theorem cells1 (w : World) (v : Value) (e : TypeId) : ∀ j u, [v][j]? = some u → (w.alloc (.cells #[v] e)).cell? ((⟨w.heap.size, 0, none⟩ : Addr).add j) = some u := by
  intro j u hu
  have hj : j = 0 := by
    have := (List.getElem?_eq_some_iff.1 hu).1
    simpa using this
  subst hj
  simp at hu
  subst hu
  exact World.cell?_alloc_at _ _ _ _ rfl
theorem ws_succ (F : Nat → In) (k : Nat) : ws F (k + 1) = ws F k ++ [.int .u32 (F k).w] := by simp [ws, List.range_succ]
set_option maxRecDepth 100000 in
set_option maxHeartbeats 4000000 in
theorem words_c (A : Option Addr) (n cap : Nat) (F : Nat → In) (w : World) (n2 : n ≤ 100000) (HS : Hid (SrcI w A n F)) :
    Calls Try.prog 82 #[.slice A n cap] w (WordsP F n w) := by
  obtain ⟨i0, hi, hz0, hz1, hz2⟩ := info_parts info25
  go_enter Try.func82, Try.ntmps82
  go_wp2_with (at_make; refine wpList_make_own _ rfl _ _ 46 rfl w.heap.size 54 i0 _ 1 Try.underlying46 hi hz0 hz1 _ _ _ n rfl rfl rfl (by rw [hz2]; omega) (by unfold maxLen; omega) (Nat.le_refl _) ?_)
  intro w1 hown hgrow
  have hlt := row_lt hown
  have HO1 := Lib.hid hown
  have HB1 := Lib.hid (below_made hgrow)
  clear hown hgrow
  go_wp2_with (go_at_call 165; refine (bases_c _).mono ?_; rintro e w2 ⟨rfl, hm, hb2⟩; have HM2 := Lib.hid hm; have HO2 := Lib.hid (row_past HO1.out hb2); have HB2 := Lib.hid (HB1.out.trans (hb2.mono HB1.out.size)); clear hm hb2)
  clear HO1 HB1
  obtain ⟨bm, hbm⟩ : ∃ bm, bm = w1.heap.size := ⟨_, rfl⟩
  rw [← hbm] at HM2
  rw [← hbm]
  have hne : bm ≠ w.heap.size := by omega
  clear hbm hlt
  go_loopw [4, 7, 8, 9, 18] (fun v p a e ix wr => ∃ k : Nat, k ≤ n ∧ ix = .int .i64 k ∧ v = .slice (some ⟨w.heap.size, 0, none⟩) k n ∧ Hid (good F k) ∧ Hid (wr.ownsRow w.heap.size 54 1 (.slice (some ⟨w.heap.size, 0, none⟩) k n) k (ws F k)) ∧ Hid (wr.ownsMap Try.prog 3 (plainElem (H := Unit) Try.prog 54) bm 42 DD) ∧ Hid (Below w.heap.size w wr)) (fun _ _ _ _ ix _ => n - (intOf ix).toNat)
  case atStart => exact ⟨0, Nat.zero_le _, rfl, rfl, Lib.hid (fun j h => by omega), HO2, HM2, HB2⟩
  case round =>
    obtain ⟨k, hk, rfl, rfl, HG, HO, HM, HB⟩ := hrel
    by_cases hlt : k < n
    · obtain ⟨b, off, rfl, hb, hc⟩ : ∃ b off, A = some ⟨b, off, none⟩ ∧ b < w.heap.size ∧ InsAt w b off n F := by
        rcases HS.out with h | h
        · omega
        · exact h
      obtain ⟨c0, c1, c2, c3, c4, c5, c6⟩ := (hc.past hb HB.out) k hlt
      clear hc
      obtain ⟨x, hx⟩ : ∃ x, x = F k := ⟨_, rfl⟩
      rw [← hx] at c0 c1 c2 c3 c4 c5 c6
      have HX := Lib.hid hx
      clear hx
      have hm3 : k + 1 ≤ n := by omega
      rcases x.e_or with he | he
      · go_wp2_with (first | (go_at_call 166; refine (In.word x bm _ (map_past HM.out ((Below.refl _ _).alloc (Nat.le_refl _) _))).mono ?_; rintro r w3 ⟨rfl, hb3⟩; have HB3 := Lib.hid (((Below.refl wr.heap.size wr).alloc (Nat.le_refl _) _).trans (hb3.mono (by simp))); clear hb3) | (at_builtin; refine wpList_append_fits _ rfl _ _ 46 rfl w.heap.size 54 i0 1 Try.underlying46 hi hz1 w.heap.size k n (ws F k) rfl (row_past HO.out (HB3.out.alloc HB3.out.size _)) ⟨w3.heap.size, 0, none⟩ 1 1 [.int .u32 x.w] rfl rfl (cells1 _ _ _) (one32 _) hm3 ?_))
        intro w4 hown' hgrow
        have HO4 : Hid (w4.ownsRow w.heap.size 54 1 (.slice (some ⟨w.heap.size, 0, none⟩) (k + 1) n) (k + 1) (ws F (k + 1))) := Lib.hid (by rw [ws_succ, ← HX.out]; exact hown')
        have HM4 := Lib.hid (map_grown (map_past HM.out (HB3.out.alloc HB3.out.size (.cells #[.int .u32 x.w] 54))) hgrow hne)
        have HB4 := Lib.hid ((HB.out.trans ((HB3.out.alloc HB3.out.size (.cells #[.int .u32 x.w] 54)).mono HB.out.size)).trans (below_grown hgrow (Nat.le_refl _) (by have := HB.out.size; have := HB3.out.size; simp; omega)))
        have HG4 : Hid (good F (k + 1)) := Lib.hid (fun j hj => by
          rcases Nat.lt_or_ge j k with h | h
          · exact HG.out j h
          · rw [show j = k from by omega, ← HX.out]; exact he)
        clear hown' hgrow
        go_wp2
        go_roundw
        case rel => exact ⟨k + 1, by omega, by go_num, rfl, HG4, HO4, HM4, HB4⟩
        case measure => simp [intOf]; omega
      · have HN : Hid (¬ good F n) := Lib.hid (fun h => by
          have := h k hlt
          rw [← HX.out, he] at this
          cases this)
        go_wp2_with (go_at_call 166; refine (In.word x bm _ (map_past HM.out ((Below.refl _ _).alloc (Nat.le_refl _) _))).mono ?_; rintro r w3 ⟨rfl, hb3⟩; have HB3 := Lib.hid (((Below.refl wr.heap.size wr).alloc (Nat.le_refl _) _).trans (hb3.mono (by simp))); clear hb3)
        go_ret2
        exact ⟨.inr ⟨HN.out, rfl⟩, HB.out.trans (HB3.out.mono HB.out.size)⟩
    · obtain rfl : k = n := by omega
      go_wp2
      go_ret2
      exact ⟨.inl ⟨HG.out, rfl, HO.out⟩, HB.out⟩
end Go.Proofs.Ytnbpgoacooddjaa.En
