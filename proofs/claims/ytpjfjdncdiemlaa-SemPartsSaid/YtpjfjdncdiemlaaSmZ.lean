import Derived.Test.YtpjfjdncdiemlaaRows
import Derived.WalkKit
import Derived.ProofKit
import Derived.OpenShut
import Derived.Deep.QuietTactic
import Derived.BigQuiet
import Derived.Outline
import Derived.WalkSmall
import Derived.WalkLawsBesides
import Derived.WalkSpells
import Derived.BigGuardPart
import Derived.RegionTactic
import Derived.Deep.RegionHeld3
import Derived.Lib.Hide
import Derived.Deep.MidRow
import Derived.Below
import Derived.Deep.RegionWith
import Derived.Test.YtpjfjdncdiemlaaSmC
import Derived.Test.YtpjfjdncdiemlaaSmU
import Derived.Test.YtpjfjdncdiemlaaSmY
import Derived.Deep.OwnRows
import Derived.Deep.AppendLies
import Derived.Laws.BitsAllLaws
import Derived.Laws.BitsLemmas
namespace Go.Proofs.Ytpjfjdncdiemlaa
open Go.ChangeShapes Go.WideShapes Go.ChangeAt Go.RowKit
set_option linter.unusedVariables false



theorem mz_0 (d m : Int) (r : Rg) (w : World) (d1 : 0 ≤ d) (d2 : d ≤ 30) (m1 : 0 ≤ m) (m2 : m ≤ 65535) : Calls Try.prog 20 #[.agg #[.int .i64 2, .int .i64 d, .int .i64 0, .int .i64 0, .int .i64 0, .int .i64 0, .int .i64 m], .int .u64 0, .agg r.arr] w fun e w' => e = .returned (.agg (efo (r.set d (m)))) ∧ Below w.heap.size w w' :=
  do_res78 2 d 0 0 0 0 m 0 _ r w (check_movz d 0 m d1 (by omega) (by omega) (by omega) m1 m2) doing_2 (fun w => target_c 2 d 0 0 0 0 m 0 r w (by simp; omega)) (fun w => moved_0 2 d 0 0 0 m 0 r w m1 m2)
theorem mk_0 (d m : Int) (r : Rg) (w : World) (d1 : 0 ≤ d) (d2 : d ≤ 30) (m1 : 0 ≤ m) (m2 : m ≤ 65535) (x1 : 0 ≤ r.get d) (x2 : r.get d < 18446744073709551616) (hf : r.get d / 1 % 65536 = 0) : Calls Try.prog 20 #[.agg #[.int .i64 3, .int .i64 d, .int .i64 0, .int .i64 0, .int .i64 0, .int .i64 0, .int .i64 m], .int .u64 0, .agg r.arr] w fun e w' => e = .returned (.agg (efo (r.set d (r.get d + m)))) ∧ Below w.heap.size w w' :=
  do_res79 3 d 0 0 0 0 m 0 _ r w (check_movk d 0 m d1 (by omega) (by omega) (by omega) m1 m2) doing_3 (fun w => target_c 3 d 0 0 0 0 m 0 r w (by simp; omega)) (fun w => kept_0 3 d 0 0 0 m 0 r w m1 m2 x1 x2 hf)
theorem mz_1 (d m : Int) (r : Rg) (w : World) (d1 : 0 ≤ d) (d2 : d ≤ 30) (m1 : 0 ≤ m) (m2 : m ≤ 65535) : Calls Try.prog 20 #[.agg #[.int .i64 2, .int .i64 d, .int .i64 0, .int .i64 1, .int .i64 0, .int .i64 0, .int .i64 m], .int .u64 0, .agg r.arr] w fun e w' => e = .returned (.agg (efo (r.set d (m * 65536)))) ∧ Below w.heap.size w w' :=
  do_res78 2 d 0 1 0 0 m 0 _ r w (check_movz d 1 m d1 (by omega) (by omega) (by omega) m1 m2) doing_2 (fun w => target_c 2 d 0 1 0 0 m 0 r w (by simp; omega)) (fun w => moved_1 2 d 0 0 0 m 0 r w m1 m2)
theorem mk_1 (d m : Int) (r : Rg) (w : World) (d1 : 0 ≤ d) (d2 : d ≤ 30) (m1 : 0 ≤ m) (m2 : m ≤ 65535) (x1 : 0 ≤ r.get d) (x2 : r.get d < 18446744073709551616) (hf : r.get d / 65536 % 65536 = 0) : Calls Try.prog 20 #[.agg #[.int .i64 3, .int .i64 d, .int .i64 0, .int .i64 1, .int .i64 0, .int .i64 0, .int .i64 m], .int .u64 0, .agg r.arr] w fun e w' => e = .returned (.agg (efo (r.set d (r.get d + m * 65536)))) ∧ Below w.heap.size w w' :=
  do_res79 3 d 0 1 0 0 m 0 _ r w (check_movk d 1 m d1 (by omega) (by omega) (by omega) m1 m2) doing_3 (fun w => target_c 3 d 0 1 0 0 m 0 r w (by simp; omega)) (fun w => kept_1 3 d 0 0 0 m 0 r w m1 m2 x1 x2 hf)
theorem mz_2 (d m : Int) (r : Rg) (w : World) (d1 : 0 ≤ d) (d2 : d ≤ 30) (m1 : 0 ≤ m) (m2 : m ≤ 65535) : Calls Try.prog 20 #[.agg #[.int .i64 2, .int .i64 d, .int .i64 0, .int .i64 2, .int .i64 0, .int .i64 0, .int .i64 m], .int .u64 0, .agg r.arr] w fun e w' => e = .returned (.agg (efo (r.set d (m * 4294967296)))) ∧ Below w.heap.size w w' :=
  do_res78 2 d 0 2 0 0 m 0 _ r w (check_movz d 2 m d1 (by omega) (by omega) (by omega) m1 m2) doing_2 (fun w => target_c 2 d 0 2 0 0 m 0 r w (by simp; omega)) (fun w => moved_2 2 d 0 0 0 m 0 r w m1 m2)
theorem mk_2 (d m : Int) (r : Rg) (w : World) (d1 : 0 ≤ d) (d2 : d ≤ 30) (m1 : 0 ≤ m) (m2 : m ≤ 65535) (x1 : 0 ≤ r.get d) (x2 : r.get d < 18446744073709551616) (hf : r.get d / 4294967296 % 65536 = 0) : Calls Try.prog 20 #[.agg #[.int .i64 3, .int .i64 d, .int .i64 0, .int .i64 2, .int .i64 0, .int .i64 0, .int .i64 m], .int .u64 0, .agg r.arr] w fun e w' => e = .returned (.agg (efo (r.set d (r.get d + m * 4294967296)))) ∧ Below w.heap.size w w' :=
  do_res79 3 d 0 2 0 0 m 0 _ r w (check_movk d 2 m d1 (by omega) (by omega) (by omega) m1 m2) doing_3 (fun w => target_c 3 d 0 2 0 0 m 0 r w (by simp; omega)) (fun w => kept_2 3 d 0 0 0 m 0 r w m1 m2 x1 x2 hf)
theorem mz_3 (d m : Int) (r : Rg) (w : World) (d1 : 0 ≤ d) (d2 : d ≤ 30) (m1 : 0 ≤ m) (m2 : m ≤ 65535) : Calls Try.prog 20 #[.agg #[.int .i64 2, .int .i64 d, .int .i64 0, .int .i64 3, .int .i64 0, .int .i64 0, .int .i64 m], .int .u64 0, .agg r.arr] w fun e w' => e = .returned (.agg (efo (r.set d (m * 281474976710656)))) ∧ Below w.heap.size w w' :=
  do_res78 2 d 0 3 0 0 m 0 _ r w (check_movz d 3 m d1 (by omega) (by omega) (by omega) m1 m2) doing_2 (fun w => target_c 2 d 0 3 0 0 m 0 r w (by simp; omega)) (fun w => moved_3 2 d 0 0 0 m 0 r w m1 m2)
theorem mk_3 (d m : Int) (r : Rg) (w : World) (d1 : 0 ≤ d) (d2 : d ≤ 30) (m1 : 0 ≤ m) (m2 : m ≤ 65535) (x1 : 0 ≤ r.get d) (x2 : r.get d < 18446744073709551616) (hf : r.get d / 281474976710656 % 65536 = 0) : Calls Try.prog 20 #[.agg #[.int .i64 3, .int .i64 d, .int .i64 0, .int .i64 3, .int .i64 0, .int .i64 0, .int .i64 m], .int .u64 0, .agg r.arr] w fun e w' => e = .returned (.agg (efo (r.set d (r.get d + m * 281474976710656)))) ∧ Below w.heap.size w w' :=
  do_res79 3 d 0 3 0 0 m 0 _ r w (check_movk d 3 m d1 (by omega) (by omega) (by omega) m1 m2) doing_3 (fun w => target_c 3 d 0 3 0 0 m 0 r w (by simp; omega)) (fun w => kept_3 3 d 0 0 0 m 0 r w m1 m2 x1 x2 hf)
/-- Number p of 16 bits. -/
def pw (p : Nat) : Int := match p with
  | 0 => 1
  | 1 => 65536
  | 2 => 4294967296
  | _ => 281474976710656
theorem do_mz (d m : Int) (p : Nat) (hp : p < 4) (r r' : Rg) (h : Hid (r' = r.set d (m * pw p))) (w : World) (d1 : 0 ≤ d) (d2 : d ≤ 30) (m1 : 0 ≤ m) (m2 : m ≤ 65535) : Calls Try.prog 20 #[.agg #[.int .i64 2, .int .i64 d, .int .i64 0, .int .i64 p, .int .i64 0, .int .i64 0, .int .i64 m], .int .u64 0, .agg r.arr] w fun e w' => e = .returned (.agg (efo r')) ∧ Below w.heap.size w w' := by
  rw [h.out]
  match p, hp with
  | 0, _ => rw [show m * pw 0 = m by simp [pw]]; exact mz_0 d m r w d1 d2 m1 m2
  | 1, _ => exact mz_1 d m r w d1 d2 m1 m2
  | 2, _ => exact mz_2 d m r w d1 d2 m1 m2
  | 3, _ => exact mz_3 d m r w d1 d2 m1 m2
  | k + 4, h => exact absurd h (by omega)
theorem do_mk (d m : Int) (p : Nat) (hp : p < 4) (r r' : Rg) (h : Hid (r' = r.set d (r.get d + m * pw p))) (w : World) (d1 : 0 ≤ d) (d2 : d ≤ 30) (m1 : 0 ≤ m) (m2 : m ≤ 65535) (x1 : 0 ≤ r.get d) (x2 : r.get d < 18446744073709551616) (hf : r.get d / pw p % 65536 = 0) : Calls Try.prog 20 #[.agg #[.int .i64 3, .int .i64 d, .int .i64 0, .int .i64 p, .int .i64 0, .int .i64 0, .int .i64 m], .int .u64 0, .agg r.arr] w fun e w' => e = .returned (.agg (efo r')) ∧ Below w.heap.size w w' := by
  rw [h.out]
  match p, hp, hf with
  | 0, _, hf => rw [show m * pw 0 = m by simp [pw]]; exact mk_0 d m r w d1 d2 m1 m2 x1 x2 hf
  | 1, _, hf => exact mk_1 d m r w d1 d2 m1 m2 x1 x2 hf
  | 2, _, hf => exact mk_2 d m r w d1 d2 m1 m2 x1 x2 hf
  | 3, _, hf => exact mk_3 d m r w d1 d2 m1 m2 x1 x2 hf
  | k + 4, h, _ => exact absurd h (by omega)
/-- The part p of v, where it stands, unless p is still to come. -/
def pt (v : Int) (L : List Nat) (p : Nat) : Int := if p ∈ L then 0 else v / pw p % 65536
/-- What the parts of v that are not to come make. -/
def acc (v : Int) (L : List Nat) : Int := pt v L 0 + pt v L 1 * 65536 + pt v L 2 * 4294967296 + pt v L 3 * 281474976710656
theorem pt_bd (v : Int) (L : List Nat) (p : Nat) : 0 ≤ pt v L p ∧ pt v L p ≤ 65535 := by unfold pt; split <;> omega
theorem acc_bd (v : Int) (L : List Nat) : 0 ≤ acc v L ∧ acc v L < 18446744073709551616 := by
  have := pt_bd v L 0; have := pt_bd v L 1; have := pt_bd v L 2; have := pt_bd v L 3
  unfold acc; omega
theorem acc_field (v : Int) (L : List Nat) (p : Nat) (hp : p < 4) (h : p ∈ L) : acc v L / pw p % 65536 = 0 := by
  have h0 := pt_bd v L 0; have h1 := pt_bd v L 1; have h2 := pt_bd v L 2; have h3 := pt_bd v L 3
  have hz : pt v L p = 0 := by unfold pt; rw [if_pos h]
  unfold acc
  match p, hp with
  | 0, _ => simp only [pw]; omega
  | 1, _ => simp only [pw]; omega
  | 2, _ => simp only [pw]; omega
  | 3, _ => simp only [pw]; omega
  | k + 4, h => exact absurd h (by omega)
theorem acc_step (v : Int) (L L' : List Nat) (p : Nat) (hp : p < 4) (h : p ∈ L) (h' : p ∉ L') (ho : ∀ q, q ≠ p → (q ∈ L' ↔ q ∈ L)) : acc v L' = acc v L + (v / pw p % 65536) * pw p := by
  have e : ∀ q, q ≠ p → pt v L' q = pt v L q := fun q hq => by unfold pt; by_cases hm : q ∈ L <;> simp [hm, ho q hq]
  have hz : pt v L p = 0 := by unfold pt; rw [if_pos h]
  have hz' : pt v L' p = v / pw p % 65536 := by unfold pt; rw [if_neg h']
  unfold acc
  match p, hp with
  | 0, _ => rw [e 1 (by decide), e 2 (by decide), e 3 (by decide), hz, hz']; simp only [pw]; omega
  | 1, _ => rw [e 0 (by decide), e 2 (by decide), e 3 (by decide), hz, hz']; simp only [pw]; omega
  | 2, _ => rw [e 0 (by decide), e 1 (by decide), e 3 (by decide), hz, hz']; simp only [pw]; omega
  | 3, _ => rw [e 0 (by decide), e 1 (by decide), e 2 (by decide), hz, hz']; simp only [pw]; omega
  | k + 4, h => exact absurd h (by omega)
theorem acc_none (v : Int) (h0 : 0 ≤ v) (h1 : v < 18446744073709551616) : acc v [] = v := by
  simp only [acc, pt, List.not_mem_nil, if_false, pw]
  omega
theorem acc_all (v : Int) : acc v [0, 1, 2, 3] = 0 := by
  simp [acc, pt]
/-- Of the list without its k-th. -/
theorem without (L : List Nat) (k : Nat) (hk : k < L.length) (hd : L.Nodup) : L[k] ∈ L ∧ L[k] ∉ L.take k ++ L.drop (k + 1) ∧ (∀ q, q ≠ L[k] → (q ∈ L.take k ++ L.drop (k + 1) ↔ q ∈ L)) ∧ (L.take k ++ L.drop (k + 1)).Nodup := by
  have hs : L = L.take k ++ L[k] :: L.drop (k + 1) := by rw [List.getElem_cons_drop, List.take_append_drop]
  have hd2 : (L.take k ++ L[k] :: L.drop (k + 1)).Nodup := by rw [← hs]; exact hd
  generalize L[k] = x at *
  rw [List.nodup_append] at hd2
  obtain ⟨n1, n2, n3⟩ := hd2
  rw [List.nodup_cons] at n2
  refine ⟨by rw [hs]; simp, ?_, fun q hq => ?_, ?_⟩
  · intro hm
    rcases List.mem_append.1 hm with hm | hm
    · exact n3 x hm x (by simp) rfl
    · exact n2.1 hm
  · conv => rhs; rw [hs]
    simp [hq]
  · rw [List.nodup_append]
    exact ⟨n1, n2.2, fun a ha b hb => n3 a ha b (by simp [hb])⟩
end Go.Proofs.Ytpjfjdncdiemlaa
