import Derived.Test.YtejdlhafdnpcmaaReg
import Derived.WalkLawsBesides
import Derived.WalkSpells
namespace Go.Proofs.Ytejdlhafdnpcmaa
open Go.RowKit
set_option linter.unusedVariables false
theorem app_none_run {P : Program} (w : World) (base : Nat) (t ty e : TypeId) (i : TypeInfo) (size : Nat) (ht : P.underlying t = some (.slice e)) (hi : P.info? e = some i)
    (v : Value) (n : Nat) (xs : List Value) (hown : w.ownsRow base e size v n xs) (c : Nat) : (Builtin.append_ #[t, t] ty #[v, .slice none 0 c]).run P w = .ok v w := by
  rcases hown.2 with ⟨rfl, rfl⟩ | ⟨g, cap, cur, rfl, _, _, hnc, _⟩
  · simp [Builtin.append_, run_underlying ht, sizeOf, typeInfo, hi, Builtin.lenOf, Builtin.firstCells]
  · simp [Builtin.append_, run_underlying ht, sizeOf, typeInfo, hi, Builtin.lenOf, Builtin.firstCells, hnc, storeCells]
/-- An append of nothing that has no address. -/
theorem app_none {P : Program} {w : World} {ops : Array Oper} {rest : List Oper} {o : Oper} {a : Act} {Q : Exit → Act → World → Prop} (hgd : o.guard = none) (s x : Operand) (t : TypeId)
    (ho : o.op = .call { callee := .builtin .append, args := #[s, x], argTypes := #[t, t] })
    (base : Nat) (e : TypeId) (i : TypeInfo) (size : Nat) (ht : P.underlying t = some (.slice e)) (hi : P.info? e = some i)
    (v : Value) (n : Nat) (xs : List Value) (hs : a.eval s = v) (hown : w.ownsRow base e size v n xs) (c : Nat) (hx : a.eval x = .slice none 0 c)
    (h : wpList P ops Q rest (a.put o.dst v) w) : wpList P ops Q (o :: rest) a w := by
  refine wpList_plain hgd fun K hK => ?_
  have hr := app_none_run (P := P) w base t o.type e i size ht hi v n xs hown c
  unfold Oper.wp execOp
  simp only [ho, resolve, invoke, builtin, Sem.run_bind, Sem.run_pure, Result.andThen_ok, List.map_toArray, List.map_cons, List.map_nil, hs, hx, hr]
  exact hK _ _ h
/-- A row of nothing, with a place. -/
theorem row_empty (w : World) (B : Nat) (hB : B ≤ w.heap.size) : (w.alloc (.cells #[] 3)).ownsRow B 3 1 (.slice (some ⟨w.heap.size, 0, none⟩) 0 0) 0 [] := by
  refine ⟨rfl, .inr ⟨w.heap.size, 0, #[], rfl, hB, ?_, Nat.le_refl _, by unfold maxLen; omega, rfl, rfl⟩⟩
  show (w.heap.push _)[w.heap.size]? = _
  rw [Array.getElem?_push_size]
set_option maxRecDepth 100000 in
set_option maxHeartbeats 1000000 in
theorem laid_0 (B : Nat) (r : Int) (w : World) (hB : B ≤ w.heap.size) (hr : (r == 31) = false) :
    Calls Try.prog 45 #[.slice none 0 0, .int .i64 r] w (InsP B none [] r w) := by
  obtain ⟨i0, hi, hz0, hz1, hz2⟩ := info_parts info3
  have HN : Hid (∀ j u, [Value.int .i64 r][j]? = some u → ((w.alloc (.cells #[] 3)).alloc (.cells #[.int .i64 r] 3)).cell? ((⟨w.heap.size + 1, 0, none⟩ : Addr).add j) = some u) := Lib.hid (by
    have := cell_one_new (w.alloc (.cells #[] 3)) (.int .i64 r) 3
    rw [World.size_alloc] at this
    exact this)
  have HE := Lib.hid (row_empty w B hB)
  go_enter Try.func45, Try.ntmps45
  go_wp2
  go_loop [5] (fun i => i = .int .i64 0) (fun i => 0)
  case atStart => rfl
  case round =>
    subst hrel
    go_wp2_with (first | (at_builtin; (refine app_none rfl _ _ 29 rfl B 3 i0 1 Try.underlying29 hi _ 0 [] rfl HE.out 0 rfl ?_)) | (at_builtin; (refine wpList_append_own_at _ rfl _ _ 29 rfl B 3 i0 _ 1 8 Try.underlying29 hi hz0 hz1 hz2 rfl (by decide) _ 0 [] rfl (HE.out.alloc _) ⟨w.heap.size + 1, 0, none⟩ 1 1 [.int .i64 r] rfl rfl HN.out (by intro u hu; rw [List.mem_singleton] at hu; subst hu; rfl) (by unfold maxLen; omega) (by omega) (by simp; omega) ?_); intro v1 w1 hown hgrow hnil hblk) | (at_builtin; refine app_none rfl _ _ 29 rfl B 3 i0 1 Try.underlying29 hi _ _ _ rfl hown 0 rfl ?_))
    have hw1 : w.grownBy w1 none := by
      have h2 : ((w.alloc (.cells #[] 3)).alloc (.cells #[.int .i64 r] 3)).grownBy w1 (some w.heap.size) := hgrow
      refine ⟨h2.os, h2.tape, h2.output, by have := h2.size; simp at this; omega, fun k hk _ => ?_⟩
      rw [h2.block k (by simp; omega) (fun e => by injection e with e; omega)]
      exact (((Below.refl w.heap.size w).alloc (Nat.le_refl _) (.cells #[] 3)).alloc (by simp) (.cells #[.int .i64 r] 3)).block k hk
    go_wp2
    go_ret
    exact ⟨v1, rfl, hown, hw1⟩
end Go.Proofs.Ytejdlhafdnpcmaa
