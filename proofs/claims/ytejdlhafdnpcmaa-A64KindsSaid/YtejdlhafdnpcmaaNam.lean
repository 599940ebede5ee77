import Derived.Test.YtejdlhafdnpcmaaRows
import Derived.WalkKit
import Derived.ProofKit
import Derived.OpenShut
import Derived.Outline
import Derived.WalkSmall
import Derived.WalkLawsBesides
import Derived.WalkSpells
import Derived.BigGuardPart
import Derived.RegionTactic
import Derived.Lib.Hide
import Derived.Below
namespace Go.Proofs.Ytejdlhafdnpcmaa
open Go.ChangeShapes Go.WideShapes Go.ChangeAt Go.RowKit
set_option linter.unusedVariables false
def tabL : List UInt8 := [117, 100, 102, 32, 110, 111, 112, 32, 109, 111, 118, 122, 32, 109, 111, 118, 107, 32, 97, 100, 100, 105, 32, 115, 117, 98, 105, 32, 115, 117, 98, 115, 105, 32, 97, 100, 100, 32, 115, 117, 98, 32, 115, 117, 98, 115, 32, 97, 110, 100, 32, 111, 114, 114, 32, 101, 111, 114, 32, 109, 97, 100, 100, 32, 109, 115, 117, 98, 32, 115, 100, 105, 118, 32, 108, 115, 108, 118, 32, 108, 115, 114, 118, 32, 97, 115, 114, 118, 32, 99, 115, 105, 110, 99, 32, 98, 32, 98, 46, 32, 99, 98, 122, 32, 99, 98, 110, 122, 32, 98, 108, 32, 98, 114, 32, 98, 108, 114, 32, 114, 101, 116, 32, 108, 100, 114, 32, 115, 116, 114, 32, 108, 100, 114, 98, 32, 108, 100, 114, 114, 32, 115, 116, 114, 114, 32, 108, 100, 97, 114, 32, 115, 116, 108, 114, 32, 108, 100, 120, 114, 32, 115, 116, 120, 114, 32, 100, 109, 98, 32, 100, 115, 98, 32, 105, 115, 98, 32, 100, 99, 32, 105, 99, 32, 115, 118, 99, 32]
def tab : ByteArray := ⟨tabL.toArray⟩
def nameL : List (List UInt8) := [[117, 100, 102], [110, 111, 112], [109, 111, 118, 122], [109, 111, 118, 107], [97, 100, 100, 105], [115, 117, 98, 105], [115, 117, 98, 115, 105], [97, 100, 100], [115, 117, 98], [115, 117, 98, 115], [97, 110, 100], [111, 114, 114], [101, 111, 114], [109, 97, 100, 100], [109, 115, 117, 98], [115, 100, 105, 118], [108, 115, 108, 118], [108, 115, 114, 118], [97, 115, 114, 118], [99, 115, 105, 110, 99], [98], [98, 46], [99, 98, 122], [99, 98, 110, 122], [98, 108], [98, 114], [98, 108, 114], [114, 101, 116], [108, 100, 114], [115, 116, 114], [108, 100, 114, 98], [108, 100, 114, 114], [115, 116, 114, 114], [108, 100, 97, 114], [115, 116, 108, 114], [108, 100, 120, 114], [115, 116, 120, 114], [100, 109, 98], [100, 115, 98], [105, 115, 98], [100, 99], [105, 99], [115, 118, 99]]
/-- The name of an op. -/
def nm (n : Nat) : ByteArray := ⟨(nameL.getD n []).toArray⟩
def stp (s : Nat × Nat × Nat) (c : UInt8) : Nat × Nat × Nat := if c = 32 then (s.1 + 1, s.1 + 1, s.2.2 + 1) else (s.1 + 1, s.2.1, s.2.2)
/-- Where the name begins that stands at k, and which one it is. -/
def st (k : Nat) : Nat × Nat × Nat := (tabL.take k).foldl stp (0, 0, 0)
def Fi (k : Nat) : Nat := (st k).2.1
def At (k : Nat) : Nat := (st k).2.2
theorem tab_size : tab.size = 188 := by decide +kernel
theorem all_steps : ((List.range 188).all fun k => if tabL.getD k 0 = 32 then (Fi (k + 1) == k + 1 && At (k + 1) == At k + 1 && (Fi k ≤ k : Bool) && decide (tab.extract (Fi k) k = nm (At k))) else (Fi (k + 1) == Fi k && At (k + 1) == At k)) = true := by decide +kernel
theorem at_0 : At 0 = 0 := by decide +kernel
theorem fi_0 : Fi 0 = 0 := by decide +kernel
theorem at_end : At 188 = 43 := by decide +kernel
theorem tab_get (k : Nat) (h : k < tab.size) : tab[k] = tabL.getD k 0 := by
  have h2 : k < tabL.toArray.size := h
  have : tabL.toArray[k]'h2 = tabL.getD k 0 := by
    have h3 : k < tabL.length := by simpa using h2
    simp [List.getD_eq_getElem?_getD, List.getElem?_eq_getElem h3]
  exact this
theorem step_n (k : Nat) (h : k < 188) (hc : tabL.getD k 0 ≠ 32) : Fi (k + 1) = Fi k ∧ At (k + 1) = At k := by
  have := List.all_eq_true.1 all_steps k (List.mem_range.2 h)
  rw [if_neg hc] at this
  simpa using this
theorem step_y (k : Nat) (h : k < 188) (hc : tabL.getD k 0 = 32) : Fi (k + 1) = k + 1 ∧ At (k + 1) = At k + 1 ∧ Fi k ≤ k ∧ tab.extract (Fi k) k = nm (At k) := by
  have := List.all_eq_true.1 all_steps k (List.mem_range.2 h)
  rw [if_pos hc] at this
  simpa [and_assoc] using this
theorem ret_str {a b : ByteArray} (h : a = b) : Ending.returned (.string a) = .returned (.string b) := by rw [h]
theorem tab_fold (a b : List UInt8) (h : a.append b = tabL) : Value.string ⟨(a.append b).toArray⟩ = .string tab := by rw [h]; rfl
set_option maxRecDepth 100000 in
theorem isop_y (op : Int) (w : World) (h0 : 0 ≤ op) (h1 : op ≤ 42) : Calls Try.prog 34 #[.int .i64 op] w fun e w' => e = .returned (.bool true) ∧ w' = w := by
  go_enter Try.func34, Try.ntmps34
  go_wp2
  go_ret
  exact ⟨rfl, rfl⟩
theorem isop_n (op : Int) (w : World) (h0 : op < 0 ∨ 42 < op) : Calls Try.prog 34 #[.int .i64 op] w fun e w' => e = .returned (.bool false) ∧ w' = w := by
  rcases h0 with h | h
  · go_enter Try.func34, Try.ntmps34
    go_wp2
    go_ret
    exact ⟨rfl, rfl⟩
  · have h0 : 0 ≤ op := by omega
    have h2 : decide (op ≤ 42) = false := by simpa using h
    go_enter Try.func34, Try.ntmps34
    go_wp2
    go_ret
    exact ⟨rfl, rfl⟩
theorem name_n (op : Int) (w : World) (h0 : op < 0 ∨ 42 < op) : Calls Try.prog 16 #[.int .i64 op] w fun e w' => e = .returned (.string ⟨#[]⟩) ∧ w' = w := by
  have H := Lib.hid h0
  clear h0
  go_enter Try.func16, Try.ntmps16
  go_wp2_with (go_at_call 34; refine (isop_n _ _ H.out).mono ?_; rintro e w' ⟨rfl, rfl⟩)
  go_ret
  exact ⟨rfl, rfl⟩
set_option maxRecDepth 100000 in
set_option maxHeartbeats 2000000 in
theorem name_y (op : Nat) (w : World) (h1 : op ≤ 42) : Calls Try.prog 16 #[.int .i64 op] w fun e w' => e = .returned (.string (nm op)) ∧ w' = w := by
  have hts := tab_size
  have HTS := Lib.hid hts
  clear hts
  go_enter Try.func16, Try.ntmps16
  go_wp2_with (go_at_call 34; refine (isop_y _ _ (by omega) (by omega)).mono ?_; rintro e w' ⟨rfl, rfl⟩)
  rw [tab_fold]
  rotate_left
  · kernel_rfl
  go_loop [3, 4, 9] (fun f a i => ∃ k : Nat, k ≤ 188 ∧ At k ≤ op ∧ i = .int .i64 k ∧ f = .int .i64 (Fi k) ∧ a = .int .i64 (At k)) (fun _ _ i => 188 - (intOf i).toNat)
  case atStart => exact ⟨0, by omega, by rw [at_0]; omega, rfl, by rw [fi_0]; rfl, by rw [at_0]; rfl⟩
  case round =>
    obtain ⟨k, hk, ha, rfl, rfl, rfl⟩ := hrel
    by_cases hlt : k < 188
    · have hks : k < tab.size := by rw [HTS.out]; exact hlt
      have hg := tab_get k hks
      by_cases hc : tabL.getD k 0 = 32
      · obtain ⟨s1, s2, s3, s4⟩ := step_y k hlt hc
        have S1 := Lib.hid s1
        have S2 := Lib.hid s2
        have S4 := Lib.hid s4
        have HC := Lib.hid hc
        rw [hc] at hg
        clear s1 s2 s4 hc
        by_cases hop : At k = op
        · subst hop
          go_wp2
          go_ret
          exact ⟨ret_str S4.out, rfl⟩
        · go_wp2
          go_round
          case rel => exact ⟨k + 1, by omega, by have := S2.out; omega, by go_num, by rw [S1.out]; go_num, by rw [S2.out]; go_num⟩
          case measure => simp [intOf]; omega
      · obtain ⟨s1, s2⟩ := step_n k hlt hc
        have S1 := Lib.hid s1
        have S2 := Lib.hid s2
        have hu : ((tab[k].toNat : Int) == 32) = false := by
          rw [hg]
          have : (tabL.getD k 0).toNat ≠ 32 := fun e => hc (UInt8.toNat_inj.1 e)
          exact beq_false_of_ne (by omega)
        have hu' : ((tab[k].toNat : Int) != 32) = true := by rw [bne, hu]; rfl
        clear s1 s2 hg hc
        go_wp2
        go_round
        case rel => exact ⟨k + 1, by omega, by rw [S2.out]; exact ha, by go_num, by rw [S1.out], by rw [S2.out]⟩
        case measure => simp [intOf]; omega
    · obtain rfl : k = 188 := by omega
      rw [at_end] at ha
      omega
end Go.Proofs.Ytejdlhafdnpcmaa
