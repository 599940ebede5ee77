import Derived.Test.YtpjfjdncdiemlaaRows
import Derived.WalkKit
import Derived.ProofKit
import Derived.OpenShut
import Derived.Deep.QuietTactic
import Derived.BigQuiet
import Derived.Outline
import Derived.WalkSmall
import Derived.WalkLawsBesides
import Derived.WalkSpells
import Derived.BigGuardPart
import Derived.RegionTactic
import Derived.Deep.RegionHeld3
import Derived.Lib.Hide
import Derived.Deep.MidRow
import Derived.Below
import Derived.Deep.RegionWith
import Derived.Test.YtpjfjdncdiemlaaSfM
namespace Go.Proofs.Ytpjfjdncdiemlaa
open Go.ChangeShapes Go.WideShapes Go.ChangeAt Go.RowKit
set_option linter.unusedVariables false
attribute [local go_sem ↓] ld76 ld25 ld38
attribute [local go_sem] rowAt_drew rowAt_drewN
/-- A slice that reads as a list of numbers. -/
def Lst (w : World) (v : Value) (xs : List Int) : Prop :=
  (xs = [] ∧ v = .slice none 0 0) ∨ ∃ g cap, v = .slice (some ⟨g, 0, none⟩) xs.length cap ∧ xs.length ≤ cap ∧ g < w.heap.size ∧ ∀ i x, xs[i]? = some x → w.cell? ⟨g, i, none⟩ = some (.int .i64 x)
theorem Lst.of_row {w : World} {b : Nat} {v : Value} {xs : List Int} (h : w.ownsRow b 3 1 v xs.length (Fr.ivs xs)) (hn : xs = [] → v = .slice none 0 0) : Lst w v xs := by
  obtain ⟨h1, h2 | ⟨g, cap, cur, hv, hg, hh, hle, hcap, hsz, htk⟩⟩ := h
  · exact .inl ⟨List.length_eq_zero_iff.1 h2.2, h2.1⟩
  · refine .inr ⟨g, cap, hv, hle, (Array.getElem?_eq_some_iff.1 hh).1, fun i x hx => ?_⟩
    rw [cell_of_row w g i cur 3 _ hh, ← Array.getElem?_toList]
    have hi : i < xs.length := (List.getElem?_eq_some_iff.1 hx).1
    have e : (cur.toList.take (xs.length * 1))[i]? = cur.toList[i]? := by rw [List.getElem?_take_of_lt (by omega)]
    rw [← e, htk]
    simp [Fr.ivs, hx]
theorem Lst.keep {w w' : World} {v : Value} {xs : List Int} (h : Lst w v xs) (hs : w.heap.size ≤ w'.heap.size) (hc : ∀ b i, b < w.heap.size → w'.cell? ⟨b, i, none⟩ = w.cell? ⟨b, i, none⟩) : Lst w' v xs := by
  rcases h with h | ⟨g, cap, hv, hle, hg, hcl⟩
  · exact .inl h
  · exact .inr ⟨g, cap, hv, hle, by omega, fun i x hx => by rw [hc g i hg]; exact hcl i x hx⟩
theorem Lst.below {w W w' : World} {v : Value} {xs : List Int} (h : Lst w v xs) (hb : Below W.heap.size W w') (he : W.heap = w.heap) : Lst w' v xs :=
  h.keep (by rw [← he]; exact hb.size) fun b i hlt => by
    have : b < W.heap.size := by rw [he]; exact hlt
    rw [hb.cell (p := ⟨b, i, none⟩) this]
    unfold World.cell?
    rw [he]
def hasB (xs : List Int) (x : Int) : Bool := decide (x ∈ xs)
set_option maxHeartbeats 1000000 in
theorem has_any (xs : List Int) (v : Value) (x : Int) (w : World) (h : Lst w v xs) (hl : xs.length ≤ 6) :
    Calls Try.prog 22 #[v, .int .i64 x] w fun e w' => e = .returned (.bool (hasB xs x)) ∧ w' = w := by
  rcases h with ⟨rfl, rfl⟩ | ⟨g, cap, rfl, hle, hg, hcl⟩
  · go_enter Try.func22, Try.ntmps22
    go_wp2
    refine wp_loop_rounds 1 ?_
    rw [rounds_succ]
    go_wp2
    go_ret
    exact ⟨rfl, rfl⟩
  · have HC := Lib.hid hcl
    clear hcl
    obtain ⟨L, hL⟩ : ∃ L, xs.length = L := ⟨_, rfl⟩
    rw [hL] at hl hle ⊢
    have HL := Lib.hid hL
    clear hL
    go_enter Try.func22, Try.ntmps22
    go_wp2
    go_loop [4, 5] (fun r i => r = .bool false ∧ ∃ k : Nat, k ≤ L ∧ i = .int .i64 k ∧ ∀ y ∈ xs.take k, y ≠ x) (fun _ i => L - (intOf i).toNat)
    case atStart => exact ⟨rfl, 0, Nat.zero_le _, rfl, by simp⟩
    case round =>
      obtain ⟨rfl, k, hk, rfl, hno⟩ := hrel
      have HN := Lib.hid hno
      clear hno
      by_cases hlt : k < L
      · obtain ⟨y, hy⟩ : ∃ y, xs[k]? = some y := ⟨_, List.getElem?_eq_getElem (by rw [HL.out]; exact hlt)⟩
        have hc := HC.out k y hy
        have HY := Lib.hid hy
        clear hy
        by_cases e : y = x
        · have he : (y == x) = true := by simpa using e
          have HR : Hid (hasB xs x = true) := Lib.hid (decide_eq_true (e ▸ List.mem_of_getElem? HY.out))
          clear e
          go_wp2
          go_ret
          exact ⟨by rw [HR.out]; rfl, rfl⟩
        · have he : (y == x) = false := by simpa using e
          have HT : Hid (xs.take (k + 1) = xs.take k ++ [y]) := Lib.hid (by rw [List.take_add_one, HY.out]; rfl)
          have HE := Lib.hid e
          clear e
          go_wp2
          go_round
          case rel =>
            refine ⟨rfl, k + 1, by omega, by go_num, ?_⟩
            rw [HT.out]
            intro z hz
            rcases List.mem_append.1 hz with hz | hz
            · exact HN.out z hz
            · rw [List.mem_singleton.1 hz]; exact HE.out
          case measure => simp [intOf]; omega
      · have HR : Hid (hasB xs x = false) := Lib.hid (decide_eq_false (fun hm => HN.out x (by rw [List.take_of_length_le (by rw [HL.out]; omega)]; exact hm) rfl))
        go_wp2
        go_ret
        exact ⟨by rw [HR.out]; rfl, rfl⟩
def tchB (o : Int) : Bool := o == 28 || o == 30 || o == 31 || o == 33 || o == 35 || o == 36
end Go.Proofs.Ytpjfjdncdiemlaa
