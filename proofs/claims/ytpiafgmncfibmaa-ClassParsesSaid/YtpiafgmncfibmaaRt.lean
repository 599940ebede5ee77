import Derived.Laws.BitsLemmas
import Derived.Laws.BitsAllLaws
import Derived.Deep.DrawnRows
import Derived.Test.YtpiafgmncfibmaaRs
import Derived.Test.YtpiafgmncfibmaaRows
import Derived.WalkKit
import Derived.ProofKit
import Derived.OpenShut
import Derived.Deep.QuietTactic
import Derived.BigQuiet
import Derived.Outline
import Derived.WalkSmall
import Derived.WalkLawsBesides
import Derived.WalkSpells
import Derived.BigGuardPart
import Derived.RegionTactic
import Derived.Deep.RegionHeld3
import Derived.Lib.Hide
import Derived.Deep.MidRow
import Derived.Below
import Derived.Deep.RegionWith
import Derived.Deep.OwnRows
import Derived.Deep.AppendLies
import Derived.Deep.RegionLaw
namespace Go.Proofs.Ytpiafgmncfibmaa
open Go.ChangeShapes Go.WideShapes Go.ChangeAt Go.RowKit
set_option linter.unusedVariables false

theorem numU_lt (d : Nat → Nat) (k : Nat) : ∀ m, (∀ i, i < m → d (k + i) < 256) → numU d k m < 2 ^ (8 * m)
  | 0, _ => by simp [numU]
  | m + 1, h => by
    have h1 := numU_lt d k m (fun i hi => h i (by omega))
    have h2 := h m (by omega)
    have e : 2 ^ (8 * (m + 1)) = 256 * 2 ^ (8 * m) := by rw [show 8 * (m + 1) = 8 + 8 * m by omega, Nat.pow_add]
    have h3 : d (k + m) * 2 ^ (8 * m) ≤ 255 * 2 ^ (8 * m) := Nat.mul_le_mul_right _ (by omega)
    show numU d k m + d (k + m) * 2 ^ (8 * m) < _
    rw [e]
    omega
theorem w64 (x : Int) : wrap64 x = IntKind.i64.wrap x := by unfold wrap64; rw [IntKind.wrap_i64]
theorem ofInt_wrap64 (x : Int) : BitVec.ofInt 64 (IntKind.i64.wrap x) = BitVec.ofInt 64 x := by
  apply BitVec.eq_of_toInt_eq
  rw [BitVec.toInt_ofInt, BitVec.toInt_ofInt, IntKind.wrap_i64]
  simp only [Int.bmod]
  omega
theorem or_step {A x m : Nat} (hA : A < 2 ^ (8 * m)) (hx : x < 256) (hm : m < 8) : bits .or .i64 (IntKind.i64.wrap (A : Int)) (IntKind.i64.wrap ((x * 2 ^ (8 * m) : Nat) : Int)) = IntKind.i64.wrap ((A + x * 2 ^ (8 * m) : Nat) : Int) := by
  have e : A ||| x * 2 ^ (8 * m) = A + x * 2 ^ (8 * m) := by
    have := Nat.two_pow_add_eq_or_of_lt hA x
    rw [Nat.or_comm, Nat.mul_comm x, ← this, Nat.add_comm]
  have hb : A + x * 2 ^ (8 * m) < 2 ^ 64 := by
    have h2 : 2 ^ (8 * (m + 1)) ≤ 2 ^ 64 := Nat.pow_le_pow_right (by decide) (by omega)
    have e2 : 2 ^ (8 * (m + 1)) = 256 * 2 ^ (8 * m) := by rw [show 8 * (m + 1) = 8 + 8 * m by omega, Nat.pow_add]
    have h3 : x * 2 ^ (8 * m) ≤ 255 * 2 ^ (8 * m) := Nat.mul_le_mul_right _ (by omega)
    omega
  show IntKind.i64.wrap ((BitVec.ofInt 64 (IntKind.i64.wrap (A : Int)) ||| BitVec.ofInt 64 (IntKind.i64.wrap ((x * 2 ^ (8 * m) : Nat) : Int))).toNat : Int) = _
  rw [ofInt_wrap64, ofInt_wrap64]
  show IntKind.i64.wrap ((BitVec.ofInt 64 (A : Int) ||| BitVec.ofInt 64 ((x * 2 ^ (8 * m) : Nat) : Int)).toNat : Int) = _
  rw [BitVec.toNat_or, BitVec.ofInt_natCast, BitVec.ofInt_natCast, BitVec.toNat_ofNat, BitVec.toNat_ofNat, Nat.mod_eq_of_lt (by omega), Nat.mod_eq_of_lt (by omega), e]
set_option maxRecDepth 100000 in
set_option maxHeartbeats 2000000 in
theorem rdx_number (S : Src) (HO : Hid (SrcOk S)) (k : Nat) (w : World) (HR : Hid (Rd S k w)) :
    Calls Try.prog 107 #[.pointer (some ⟨S.R, 0, none⟩)] w (NxR S (numE S.n S.d k) (k + 8) (NxV (IntKind.i64.wrap (numU S.d k 8 : Nat))) w) := by
  go_enter Try.func107, Try.ntmps107
  go_wp2
  go_loopw [5, 3] (fun ix v wr => ∃ (j : Nat) (y : Int), j ≤ 8 ∧ ix = .int .i64 j ∧ .int .i64 y = v ∧ Hid (firE (fun i => nxE S.n S.d 0 anyB (k + i)) j = none ∧ Rd S (k + j) wr ∧ w.grownBy wr (some S.R)) ∧ Hid (y = IntKind.i64.wrap (numU S.d k j : Nat))) (fun ix _ _ => 8 - (intOf ix).toNat)
  case atStart => exact ⟨0, 0, by omega, rfl, rfl, Lib.hid ⟨rfl, HR.out, grown_refl _ _⟩, Lib.hid (by rfl)⟩
  case round =>
    obtain ⟨j, y, hj, rfl, rfl, HQ, HY⟩ := hrel
    by_cases hjm : j < 8
    · have gj : (j : Int) < 8 := by omega
      go_wp2_with fail
      refine (rdx_any S HO (k + j) _ (Lib.hid HQ.out.2.1)).mono ?_
      intro e w1 h
      rcases h.two with ⟨p, er, hx, rfl, hb⟩ | ⟨hx, v, rfl, hq, hr, hg⟩
      · exact And.intro rfl (.bad (firE_at HQ.out.1 hx.out hjm) hb)
      · obtain rfl : v = _ := hq
        have HQ1 := Lib.hid (And.intro hr (grown_trans HQ.out.2.2 hg (.inl rfl)))
        clear hr hg h
        have hk := (nxE_none hx.out).1
        have hd : S.d (k + j) < 256 := HO.out.d _ hk
        obtain ⟨x, hx0⟩ : ∃ x, S.d (k + j) = x := ⟨_, rfl⟩
        have HX := Lib.hid hx0
        rw [hx0] at hd ⊢
        clear hx0
        go_wp2_with fail
        exact ⟨⟨j + 1, _, by omega, by go_num, rfl, Lib.hid ⟨firE_succ HQ.out.1 hx.out, HQ1.out.1, HQ1.out.2⟩, Lib.hid (by
          have h1 := or_step (numU_lt S.d k j fun i hi => HO.out.d _ (nxE_none (firE_lt HQ.out.1 i hi)).1) hd hjm
          rw [← HY.out, ← HX.out] at h1
          rw [← HX.out]
          rw [Int.natCast_mul, Int.natCast_pow, show ((2 : Nat) : Int) = 2 from rfl] at h1
          exact (congrArg (fun z => bits BinOp.or IntKind.i64 y z) (w64 _)).trans h1)⟩, by simp [intOf]; omega⟩
    · obtain rfl : j = 8 := by omega
      go_wp2
      go_ret
      exact .ok HQ.out.1 (by rw [HY.out]; rfl) HQ.out.2.1 HQ.out.2.2
def flT (v : Nat) : Int := ((v % 16 : Nat) : Int)
def flV (v : Nat) : Bool := decide (16 ≤ v)
set_option maxRecDepth 100000 in
set_option maxHeartbeats 2000000 in
theorem rdx_fields (S : Src) (HO : Hid (SrcOk S)) (k : Nat) (w : World) (HR : Hid (Rd S k w)) :
    Calls Try.prog 108 #[.pointer (some ⟨S.R, 0, none⟩)] w (NxR S (fldsE S.n S.d k) (k + 1 + S.d k) (RowV 47 2 (S.d k) w (els2 (S.d k) (fun j => .int .i64 (flT (S.d (k + 1 + j)))) (fun j => .bool (flV (S.d (k + 1 + j)))))) w) := by
  obtain ⟨ii, hi, iz0, iz1, iz2⟩ := info_parts info47x
  have HW := Lib.hid HR.out.b.size
  go_enter Try.func108, Try.ntmps108
  go_wp2_with fail
  refine (rdx_count S HO 50 k _ HR).mono ?_
  intro e w0 h
  rcases h.two with ⟨p, er, hx, rfl, hb⟩ | ⟨hx, v, rfl, hq, hr, hg⟩
  · exact And.intro rfl (.bad (or_some hx.out) hb)
  obtain rfl : v = _ := hq
  have HX0 := hx
  have HR0 := Lib.hid (And.intro hr hg)
  have hm : S.d k ≤ 50 := by have := (nxE_none hx.out).2; unfold leB at this; have := of_decide_eq_true this; omega
  clear hr hg h hx
  obtain ⟨m, hm0⟩ : ∃ m, S.d k = m := ⟨_, rfl⟩
  have HM := Lib.hid hm0
  have HE : Hid (fldsE S.n S.d k = firE (fun j => nxE S.n S.d 5 flB (k + 1 + j)) m) := Lib.hid (by unfold fldsE; rw [HX0.out, hm0]; rfl)
  rw [hm0] at hm ⊢
  clear hm0
  go_wp2_with fail
  go_loopw [7, 3] (fun ix v wr => ∃ (j : Nat) (V : Value), j ≤ m ∧ ix = .int .i64 j ∧ V = v ∧ Hid (firE (fun j => nxE S.n S.d 5 flB (k + 1 + j)) j = none ∧ RowR S w (k + 1 + j) 47 2 V j (els2 j (fun j => .int .i64 (flT (S.d (k + 1 + j)))) (fun j => .bool (flV (S.d (k + 1 + j))))) wr)) (fun ix _ _ => m - (intOf ix).toNat)
  case atStart => exact ⟨0, _, by omega, rfl, rfl, Lib.hid ⟨rfl, ⟨rfl, .inl ⟨rfl, rfl⟩⟩, HR0.out.1, HR0.out.2⟩⟩
  case round =>
    obtain ⟨j, V, hj, rfl, rfl, HQ⟩ := hrel
    by_cases hjm : j < m
    · have gj : (j : Int) < m := by omega
      go_wp2_with fail
      refine (nx_field S HO (k + 1 + j) 5 _ (Lib.hid HQ.out.2.rd)).mono ?_
      intro e w1 h
      rcases h.two with ⟨p, er, hx, rfl, hb⟩ | ⟨hx, v, rfl, hq, hr, hg⟩
      · exact And.intro rfl (.bad (HE.out.trans (firE_at HQ.out.1 hx.out hjm)) hb)
      · obtain rfl : v = _ := hq
        have HQ1 : Hid (RowR S w (k + 1 + j + 1) 47 2 V j (els2 j (fun j => .int .i64 (flT (S.d (k + 1 + j)))) (fun j => .bool (flV (S.d (k + 1 + j))))) w1) := Lib.hid (HQ.out.2.next HR.out.lt hr hg)
        have hd : S.d (k + 1 + j) < 256 := HO.out.d _ (nxE_none hx.out).1
        obtain ⟨x, hx0⟩ : ∃ x, S.d (k + 1 + j) = x := ⟨_, rfl⟩
        have HX := Lib.hid hx0
        rw [hx0] at hd ⊢
        clear hx0
        have hgt : Hid (decide ((16 : Int) ≤ (x : Int)) = flV x) := Lib.hid (by unfold flV; simp; omega)
        have HOw := Lib.hid (fun c d => own_keep HQ1.out.own (.alloc w1 (.cells #[c, d] 47)))
        have hsz : w.heap.size ≤ w1.heap.size := HQ1.out.gr.size
        clear hr hg h
        go_wp2_with (at_builtin; refine wpList_append_lies _ rfl _ _ 45 rfl w.heap.size 47 ii _ 2 16 Try.underlying45 hi iz0 iz1 iz2 rfl (by decide) V j (els2 j (fun j => .int .i64 (flT (S.d (k + 1 + j)))) (fun j => .bool (flV (S.d (k + 1 + j))))) rfl (HOw.out _ _) ⟨w1.heap.size, 0, none⟩ 1 1 [.int .i64 ((x : Int) % 16), .bool (decide ((16 : Int) ≤ (x : Int)))] rfl rfl (World.news_of_block (cs := #[.int .i64 ((x : Int) % 16), .bool (decide ((16 : Int) ≤ (x : Int)))]) (t := 47) (fr := (0, 0)) (heap_alloc_new w1 _)) (by simp [Value.oneCell']) (by omega) (by unfold maxLen; omega) (by omega) (by simp; omega) (w1.heap.size + 1) (by simp) ?_; intro g cap w2 hown hgrow _ _)
        exact ⟨⟨j + 1, _, by omega, by go_num, rfl, Lib.hid ⟨firE_succ HQ.out.1 hx.out, by have := HQ1.out.app HO.out HW.out (by decide) hown hgrow; rw [els2_snoc j (fun j => .int .i64 (flT (S.d (k + 1 + j)))) (fun j => .bool (flV (S.d (k + 1 + j)))) _ _ (by rw [HX.out]; unfold flT; rw [Int.natCast_emod]; rfl) (by rw [HX.out, hgt.out])] at this; exact this⟩⟩, by simp [intOf]; omega⟩
    · obtain rfl : m = j := by omega
      go_wp2
      go_ret
      obtain ⟨a, c, hv⟩ := own_slice HQ.out.2.own
      exact .ok (HE.out.trans HQ.out.1) (by rw [HM.out]; exact ⟨a, c, hv, hv ▸ HQ.out.2.own⟩) (by rw [HM.out]; exact HQ.out.2.rd) HQ.out.2.gr
end Go.Proofs.Ytpiafgmncfibmaa
