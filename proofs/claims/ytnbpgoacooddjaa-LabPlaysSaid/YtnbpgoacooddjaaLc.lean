import Derived.Test.YtnbpgoacooddjaaLa
namespace Go.Proofs.Ytnbpgoacooddjaa.Lab
open Go.ChangeShapes Go.WideShapes Go.ChangeAt Go.RowKit Go.Maps
open Go.Proofs.Ytnbpgoacooddjaa.En
set_option linter.unusedVariables false
attribute [local go_sem] rowAt_drew rowAt_drewN
theorem InsAt.rows {w : World} {b off n : Nat} {F : Nat → In} (h : InsAt w b off n F) : ∀ p u, (insL F n)[p]? = some u → w.cell? ((⟨b, off, none⟩ : Addr).add p) = some u := by
  intro p u hu
  have hp : p < n * 7 := by
    have := (List.getElem?_eq_some_iff.1 hu).1
    rwa [insL_len] at this
  have he : p = p / 7 * 7 + p % 7 := by omega
  have hj : p / 7 < n := by omega
  obtain ⟨c0, c1, c2, c3, c4, c5, c6⟩ := h _ hj
  have hk : p % 7 < 7 := Nat.mod_lt _ (by decide)
  rw [he, insL_at F _ _ hk n hj] at hu
  rw [Go.WideShapes.add_plain, he, ← Nat.add_assoc]
  rcases (show p % 7 = 0 ∨ p % 7 = 1 ∨ p % 7 = 2 ∨ p % 7 = 3 ∨ p % 7 = 4 ∨ p % 7 = 5 ∨ p % 7 = 6 by omega) with e | e | e | e | e | e | e <;> rw [e] at hu ⊢ <;> (simp [cl] at hu; subst hu)
  · exact c0
  · exact c1
  · exact c2
  · exact c3
  · exact c4
  · exact c5
  · exact c6
theorem info29z : (Try.prog.info? 29).map (fun i => (i.zero, i.size, i.bytes)) = some (some (.agg #[.int .i64 0, .int .i64 0, .int .i64 0, .int .i64 0, .int .i64 0, .int .i64 0, .int .i64 0]), 7, 56) := by kernel_rfl
theorem app_none7 {P : Program} (w : World) (base : Nat) (t ty e : TypeId) (i : TypeInfo) (size : Nat) (ht : P.underlying t = some (.slice e)) (hi : P.info? e = some i)
    (v : Value) (n : Nat) (xs : List Value) (hown : w.ownsRow base e size v n xs) (c : Nat) : (Builtin.append_ #[t, t] ty #[v, .slice none 0 c]).run P w = .ok v w := by
  rcases hown.2 with ⟨rfl, rfl⟩ | ⟨g, cap, cur, rfl, _, _, hnc, _⟩
  · simp [Builtin.append_, run_underlying ht, sizeOf, typeInfo, hi, Builtin.lenOf, Builtin.firstCells]
  · simp [Builtin.append_, run_underlying ht, sizeOf, typeInfo, hi, Builtin.lenOf, Builtin.firstCells, hnc, storeCells]
/-- An append of instructions to a row of one's own. -/
theorem run_append7 (w : World) (ty : TypeId) (base : Nat) (v : Value) (n : Nat) (xs : List Value) (hown : w.ownsRow base 29 7 v n xs)
    (ad : Option Addr) (m c : Nat) (G : Nat → In) (hG : SrcI w ad m G) (hnm : n + m ≤ 10000000) (hbase : base ≤ w.heap.size) :
    ∃ v' w', (Builtin.append_ #[63, 63] ty #[v, .slice ad m c]).run Try.prog w = .ok v' w' ∧ w'.ownsRow base 29 7 v' (n + m) (xs ++ insL G m) ∧ w.grownBy w' v.ownBlock ∧ (v'.ownBlock = v.ownBlock ∨ v'.ownBlock = some w.heap.size) := by
  have hb := info29z
  cases hi : Try.prog.info? 29 with
  | none => rw [hi] at hb; cases hb
  | some i =>
    rw [hi] at hb
    simp only [Option.map_some, Option.some.injEq, Prod.mk.injEq] at hb
    obtain ⟨hz0, hz1, hz2⟩ := hb
    cases ad with
    | none =>
      obtain rfl : m = 0 := by
        rcases hG with h | ⟨b, off, h, _⟩
        · exact h
        · cases h
      exact ⟨v, w, app_none7 w base 63 ty 29 i 7 Try.underlying63 hi v n xs hown c, by simpa [insL] using hown, World.grownBy.refl w _, .inl rfl⟩
    | some ad =>
      have hnews : ∀ j u, (insL G m)[j]? = some u → w.cell? (ad.add j) = some u := by
        rcases hG with h | ⟨b, off, h, _, hw⟩
        · subst h; intro j u hu; cases hu
        · injection h with h
          subst h
          exact InsAt.rows hw
      obtain ⟨v', w', hr, h2, h3, _, h5⟩ := run_append_own_at (P := Try.prog) w base 63 ty 29 i _ 7 56 Try.underlying63 hi hz0 hz1 hz2 rfl (by decide) v n xs hown ad m c (insL G m) (insL_len G m) hnews (insL_one G m) (by unfold maxLen; omega) (by omega) hbase
      exact ⟨v', w', hr, h2, h3, h5⟩
theorem wpl_append7 {w : World} {ops : Array Oper} {rest : List Oper} {o : Oper} {a : Act} {Q : Exit → Act → World → Prop} (hgd : o.guard = none) (s x : Operand)
    (ho : o.op = .call { callee := .builtin .append, args := #[s, x], argTypes := #[63, 63] })
    (base : Nat) (v : Value) (n : Nat) (xs : List Value) (hs : a.eval s = v) (hown : w.ownsRow base 29 7 v n xs)
    (ad : Option Addr) (m c : Nat) (G : Nat → In) (hx : a.eval x = .slice ad m c) (hG : SrcI w ad m G) (hnm : n + m ≤ 10000000) (hbase : base ≤ w.heap.size)
    (h : ∀ v' w', w'.ownsRow base 29 7 v' (n + m) (xs ++ insL G m) → w.grownBy w' v.ownBlock → (v'.ownBlock = v.ownBlock ∨ v'.ownBlock = some w.heap.size) → wpList Try.prog ops Q rest (a.put o.dst v') w') : wpList Try.prog ops Q (o :: rest) a w := by
  obtain ⟨v', w', hr, h2, h3, h4⟩ := run_append7 w o.type base v n xs hown ad m c G hG hnm hbase
  refine wpList_plain hgd fun K hK => ?_
  unfold Oper.wp execOp
  simp only [ho, resolve, invoke, builtin, Sem.run_bind, Sem.run_pure, Result.andThen_ok, List.map_toArray, List.map_cons, List.map_nil, hs, hx, hr]
  exact hK _ _ (h v' w' h2 h3 h4)
set_option maxRecDepth 100000 in
set_option maxHeartbeats 4000000 in
theorem index_c (A : Option Addr) (m cap : Nat) (G : Nat → In) (w : World) (hm : m ≤ 9223372036854775807) (HS : Hid (SrcI w A m G)) :
    Calls Try.prog 178 #[.slice A m cap, .func (.func 109) #[] #[]] w fun e w' => (∃ r : Int, e = .returned (.int .i64 r) ∧ ((good G m ∧ r = -1) ∨ (¬ good G m ∧ 0 ≤ r))) ∧ Below w.heap.size w w' := by
  go_enter Try.func178, Try.ntmps178
  go_wp2
  go_loopw [8] (fun s8 W => ∃ k : Nat, k ≤ m ∧ s8 = .int .i64 k ∧ Hid (good G k) ∧ Hid (Below w.heap.size w W)) (fun s8 _ => m - (intOf s8).toNat)
  case atStart => exact ⟨0, Nat.zero_le _, rfl, Lib.hid (fun j h => by omega), Lib.hid (Below.refl _ _)⟩
  case round =>
    obtain ⟨k, hk, rfl, HG, HB⟩ := hrel
    by_cases hlt : k < m
    · obtain ⟨b, off, rfl, hb, hc⟩ : ∃ b off, A = some ⟨b, off, none⟩ ∧ b < w.heap.size ∧ InsAt w b off m G := by
        rcases HS.out with h | h
        · omega
        · exact h
      obtain ⟨c0, c1, c2, c3, c4, c5, c6⟩ := (hc.past hb HB.out) k hlt
      clear hc
      obtain ⟨x, hx⟩ : ∃ x, x = G k := ⟨_, rfl⟩
      rw [← hx] at c0 c1 c2 c3 c4 c5 c6
      have HX := Lib.hid hx
      clear hx
      rcases x.e_or with he | he
      · have HG4 : Hid (good G (k + 1)) := Lib.hid (fun j hj => by
          rcases Nat.lt_or_ge j k with h | h
          · exact HG.out j h
          · rw [show j = k from by omega, ← HX.out]; exact he)
        have hp := put1_c x wr
        rw [he] at hp
        have HP := Lib.hid hp
        clear hp he
        go_wp2_with (go_at_call 109; refine HP.out.mono ?_; rintro e w3 ⟨rfl, hb3⟩; have HB3 := Lib.hid (below_step HB.out hb3 rfl rfl rfl rfl); clear hb3)
        go_roundw
        case rel => exact ⟨k + 1, by omega, by go_num, HG4, HB3⟩
        case measure => simp [intOf]; omega
      · have HN : Hid (¬ good G m) := Lib.hid (fun h => by
          have := h k hlt
          rw [← HX.out, he] at this
          cases this)
        have hp := put1_c x wr
        rw [he] at hp
        have HP := Lib.hid hp
        clear hp he
        go_wp2_with (go_at_call 109; refine HP.out.mono ?_; rintro e w3 ⟨rfl, hb3⟩; have HB3 := Lib.hid (below_step HB.out hb3 rfl rfl rfl rfl); clear hb3)
        go_ret
        exact ⟨⟨k, rfl, .inr ⟨HN.out, by omega⟩⟩, HB3.out⟩
    · obtain rfl : m = k := by omega
      go_wp2
      go_ret
      exact ⟨⟨-1, rfl, .inl ⟨HG.out, rfl⟩⟩, HB.out⟩
set_option maxRecDepth 100000 in
theorem contains_c (A : Option Addr) (m cap : Nat) (G : Nat → In) (w : World) (hm : m ≤ 9223372036854775807) (HS : Hid (SrcI w A m G)) :
    Calls Try.prog 108 #[.slice A m cap, .func (.func 109) #[] #[]] w fun e w' => (∃ b, e = .returned (.bool b) ∧ ((good G m ∧ b = false) ∨ (¬ good G m ∧ b = true))) ∧ Below w.heap.size w w' := by
  go_enter Try.func108, Try.ntmps108
  go_wp2_with (go_at_call 178; refine (index_c A m cap G _ hm HS).mono ?_; rintro e w1 ⟨⟨r, rfl, hr⟩, hb⟩; have HR := Lib.hid hr; have HB := Lib.hid hb; clear hr hb)
  go_ret
  refine ⟨⟨_, rfl, ?_⟩, HB.out⟩
  rcases HR.out with ⟨h1, rfl⟩ | ⟨h1, h2⟩
  · exact .inl ⟨h1, by decide⟩
  · exact .inr ⟨h1, by simpa using h2⟩
end Go.Proofs.Ytnbpgoacooddjaa.Lab
