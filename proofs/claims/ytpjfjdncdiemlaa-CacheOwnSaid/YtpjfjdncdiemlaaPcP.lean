import Derived.Test.YtpjfjdncdiemlaaRows
import Derived.WalkKit
import Derived.ProofKit
import Derived.OpenShut
import Derived.Deep.QuietTactic
import Derived.BigQuiet
import Derived.Outline
import Derived.WalkSmall
import Derived.WalkLawsBesides
import Derived.WalkSpells
import Derived.BigGuardPart
import Derived.RegionTactic
import Derived.Deep.RegionHeld3
import Derived.Lib.Hide
import Derived.Deep.OwnRows
import Derived.Maps.AppendAt
import Derived.Deep.AppendLies
import Derived.Below
import Derived.Test.YtpjfjdncdiemlaaPcD
import Derived.Deep.RegionLaw
namespace Go.Proofs.Ytpjfjdncdiemlaa
open Go.ChangeShapes Go.WideShapes Go.ChangeAt Go.RowKit
set_option linter.unusedVariables false
theorem info59 : (Try.prog.info? 59).map (fun i => (i.zero, i.size, i.bytes)) = some (some (.agg #[.int .i64 0, .int .u64 0, .slice none 0 0, .int .i64 0]), 4, 48) := by kernel_rfl
/-- A row of one piece at lb, its words at g, all from N on. -/
def OnePiece (w w' : World) (lb g gcp len : Nat) (m a st : Int) (F : Nat → Nat) : Prop := w.heap.size ≤ lb ∧ lb < w'.heap.size ∧ w.heap.size ≤ g ∧ g < w'.heap.size ∧ w'.cell? ⟨lb, 0, none⟩ = some (.int .i64 m) ∧ w'.cell? ⟨lb, 1, none⟩ = some (.int .u64 a) ∧ w'.cell? ⟨lb, 2, none⟩ = some (.slice (some ⟨g, 0, none⟩) len gcp) ∧ w'.cell? ⟨lb, 3, none⟩ = some (.int .i64 st) ∧ WdAt w' g len F ∧ Below w.heap.size w w'
set_option maxRecDepth 100000 in
set_option maxHeartbeats 4000000 in
theorem pieces_c (cb pb cap at0 gb len wcap : Nat) (wd tk m a st f r : Int) (F : Nat → Nat) (w : World) (l1 : 1 ≤ len) (l2 : len ≤ 70000) (hg : gb < w.heap.size) (HW : Hid (WdAt w gb len F)) (HC : Hid (PcAt w cb pb 1 cap at0 wd tk m a (some ⟨gb, 0, none⟩) len wcap st f r)) :
    Calls Try.prog 30 #[.pointer (some ⟨cb, 0, none⟩)] w fun e w' => ∃ lb cp g gcp, e = .returned (.slice (some ⟨lb, 0, none⟩) 1 cp) ∧ OnePiece w w' lb g gcp len m a st F := by
  obtain ⟨i0, hi, hz0, hz1, hz2⟩ := info_parts info59
  obtain ⟨h0, h1, h2, b0, b1, b2, b3, ⟨t0, t1, t2, t3, t4, t5⟩, f2, f3⟩ := HC.out
  go_enter Try.func30, Try.ntmps30
  go_wp2
  go_loopw [3, 11] (fun l i wr => (i = .int .i64 0 ∧ l = .slice none 0 0 ∧ wr = w) ∨ (i = .int .i64 1 ∧ ∃ lb cp g gcp, l = .slice (some ⟨lb, 0, none⟩) 1 cp ∧ Hid (OnePiece w wr lb g gcp len m a st F))) (fun _ i _ => 1 - (intOf i).toNat)
  case atStart => exact Or.inl ⟨rfl, rfl, rfl⟩
  case round =>
    rcases hrel with ⟨rfl, rfl, rfl⟩ | ⟨rfl, lb, cp, g, gcp, rfl, HP⟩
    · go_wp2_with fail
      have HB2 : Hid (Below wr.heap.size wr (wr.alloc (.cells #[.int .i64 m, .int .u64 a, .slice (some ⟨gb, 0, none⟩) len wcap, .int .i64 st, .int .i64 f, .int .i64 r] 91))) := Lib.hid ((Below.refl _ _).alloc (Nat.le_refl _) _)
      generalize wr.alloc (.cells #[.int .i64 m, .int .u64 a, .slice (some ⟨gb, 0, none⟩) len wcap, .int .i64 st, .int .i64 f, .int .i64 r] 91) = w2 at *
      refine (twin_c gb len wcap m a st f r F _ l1 l2 (by have := HB2.out.size; omega) (Lib.hid (fun p hp => (HB2.out.cell (p := ⟨gb, p, none⟩) hg).trans (HW.out p hp)))).mono ?_
      rintro e w3 ⟨g, gcp, rfl, hg1, hg2, hw3, hf3, hb3⟩
      have HB3 := Lib.hid (HB2.out.trans (hb3.mono HB2.out.size))
      have HW3 := Lib.hid hw3
      have hgw : wr.heap.size ≤ g := Nat.le_trans HB2.out.size hg1
      clear b0 b1 b2 b3 t0 t1 t2 t3 t4 t5 f2 f3 hb3 hw3 hf3
      unfold pieceV
      have hnw : ∀ o, (w3.alloc o).heap[w3.heap.size]? = some o := fun o => heap_alloc_new w3 o
      go_wp2_with (at_builtin; refine wpList_append_lies _ rfl _ _ 66 rfl (w3.heap.size) 59 i0 _ 4 48 Try.underlying66 hi hz0 hz1 hz2 rfl (by decide) _ 0 [] rfl (World.ownsRow_nil _ _ _ _) ⟨w3.heap.size, 0, none⟩ 1 1 [.int .i64 m, .int .u64 a, .slice (some ⟨g, 0, none⟩) len gcp, .int .i64 st] rfl rfl (World.news_of_block (cs := #[.int .i64 m, .int .u64 a, .slice (some ⟨g, 0, none⟩) len gcp, .int .i64 st]) (t := 59) (fr := (0, 0)) (hnw _)) (by simp [Value.oneCell']) (by omega) (by unfold maxLen; omega) (by omega) (by simp) (w3.heap.size + 1) (by simp) ?_)
      intro lb cp w5 hown1 hgrow hat hlt
      obtain ⟨r1, r2, r3, r4⟩ := rows_of hown1
      have HBx := HB3.out.alloc HB3.out.size (.cells #[.int .i64 m, .int .u64 a, .slice (some ⟨g, 0, none⟩) len gcp, .int .i64 st] 59)
      have HB5 := HBx.grown hgrow HBx.size (fun q hq => by simp [Value.ownBlock] at hq)
      have hs5 := hgrow.size
      have hsa : (w3.alloc (.cells #[.int .i64 m, .int .u64 a, .slice (some ⟨g, 0, none⟩) len gcp, .int .i64 st] 59)).heap.size = w3.heap.size + 1 := by simp
      have HOP : Hid (OnePiece wr w5 lb g gcp len m a st F) := Lib.hid ⟨Nat.le_trans HB3.out.size r1, hlt, hgw, by omega, r3 0 _ rfl, r3 1 _ rfl, r3 2 _ rfl, r3 3 _ rfl, fun p hp => (hgrow.cell_far ⟨g, p, none⟩ (by show g < _; omega) (by simp [Value.ownBlock])).trans ((World.cell?_alloc_past _ _ _ hg2).trans (HW3.out p hp)), HB5⟩
      clear hown1 hgrow hat r1 r2 r3 r4 HBx HB5 hs5 hsa hnw
      go_wp2
      go_roundw
      case rel => exact Or.inr ⟨rfl, lb, cp, g, gcp, rfl, HOP⟩
      case measure => simp [intOf]
    · go_wp2
      refine bodyPost_ret (v := .slice (some ⟨lb, 0, none⟩) 1 cp) (by simp [results, Try.results30, go_sem]) rfl ⟨lb, cp, g, gcp, rfl, HP.out⟩
end Go.Proofs.Ytpjfjdncdiemlaa
