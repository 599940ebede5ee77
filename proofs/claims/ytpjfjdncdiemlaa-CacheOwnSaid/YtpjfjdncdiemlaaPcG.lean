import Derived.Test.YtpjfjdncdiemlaaRows
import Derived.WalkKit
import Derived.ProofKit
import Derived.OpenShut
import Derived.Deep.QuietTactic
import Derived.BigQuiet
import Derived.Outline
import Derived.WalkSmall
import Derived.WalkLawsBesides
import Derived.WalkSpells
import Derived.BigGuardPart
import Derived.RegionTactic
import Derived.Deep.RegionHeld3
import Derived.Lib.Hide
import Derived.Deep.OwnRows
import Derived.Maps.AppendAt
import Derived.Deep.AppendLies
import Derived.Below
import Derived.Test.YtpjfjdncdiemlaaPcD
import Derived.Deep.RegionLaw
namespace Go.Proofs.Ytpjfjdncdiemlaa
open Go.ChangeShapes Go.WideShapes Go.ChangeAt Go.RowKit
set_option linter.unusedVariables false
set_option maxRecDepth 100000 in
set_option maxHeartbeats 4000000 in
theorem find_c (cb pb cap at0 gb len wcap : Nat) (wd tk m a r : Int) (F : Nat → Nat) (w : World) (ha : at0 ≤ 16777216) (l1 : 1 ≤ len) (l2 : len ≤ 70000) (hg : gb < w.heap.size) (HW : Hid (WdAt w gb len F)) (HC : Hid (PcAt w cb pb 1 cap at0 wd tk m a (some ⟨gb, 0, none⟩) len wcap 2 0 r)) :
    Calls Try.prog 31 #[.pointer (some ⟨cb, 0, none⟩), .int .u64 at0] w (PieceP len m a 2 F w) := by
  obtain ⟨tb, htb⟩ : ∃ tb, tb = w.heap.size := ⟨_, rfl⟩
  have c : ∀ i, (w.alloc (.cells #[.int .i64 0, .int .u64 0, .slice none 0 0, .int .i64 0] 59)).cell? ⟨tb, i, none⟩ = (#[Value.int .i64 0, .int .u64 0, .slice none 0 0, .int .i64 0] : Array Value)[i]? := fun i => World.cell?_alloc_at _ _ _ _ htb
  have cf : ∀ i, (w.alloc (.cells #[.int .i64 0, .int .u64 0, .slice none 0 0, .int .i64 0] 59)).frozen? ⟨tb, i, none⟩ = false := fun i => World.frozen?_alloc_at _ _ _ _ htb
  have HB0 : Hid (Below w.heap.size w (w.alloc (.cells #[.int .i64 0, .int .u64 0, .slice none 0 0, .int .i64 0] 59))) := Lib.hid ((Below.refl _ _).alloc (Nat.le_refl _) _)
  have HC1 := Lib.hid (HC.out.below HB0.out)
  have HS : Hid ((w.alloc (.cells #[.int .i64 0, .int .u64 0, .slice none 0 0, .int .i64 0] 59)).heap.size = tb + 1) := Lib.hid (by simp [htb])
  have HT := Lib.hid htb
  have k1 : (0 : Int) < len := by omega
  have k2 : IntKind.u64.wrap (len : Int) = len := by rw [IntKind.wrap_u64]; omega
  obtain ⟨h0, h1, h2, b0, b1, b2, b3, ⟨t0, t1, t2, t3, t4, t5⟩, f2, f3⟩ := HC1.out
  go_enter Try.func31, Try.ntmps31
  go_wp2
  rw [← htb]
  clear htb
  generalize w.alloc (.cells #[.int .i64 0, .int .u64 0, .slice none 0 0, .int .i64 0] 59) = w1 at *
  go_loopw [22] (fun i wr => i = .int .i64 0 ∧ wr = w1) (fun _ _ => 0)
  case atStart => exact ⟨rfl, rfl⟩
  case round =>
    obtain ⟨rfl, rfl⟩ := hrel
    have q0 : ∀ o, (wr.alloc o).cell? ⟨cb, 0, none⟩ = some (.int .u64 at0) := fun o => (World.cell?_alloc_past _ _ _ (by show cb < _; omega)).trans b0
    go_wp2_with fail
    have htl : tb < wr.heap.size := by have := HS.out; omega
    have c2 : ∀ i, (wr.alloc (.cells #[.int .i64 m, .int .u64 a, .slice (some ⟨gb, 0, none⟩) len wcap, .int .i64 2, .int .i64 0, .int .i64 r] 91)).cell? ⟨tb, i, none⟩ = (#[Value.int .i64 0, .int .u64 0, .slice none 0 0, .int .i64 0] : Array Value)[i]? := fun i => (World.cell?_alloc_past _ _ _ htl).trans (c i)
    have cf2 : ∀ i, (wr.alloc (.cells #[.int .i64 m, .int .u64 a, .slice (some ⟨gb, 0, none⟩) len wcap, .int .i64 2, .int .i64 0, .int .i64 r] 91)).frozen? ⟨tb, i, none⟩ = false := fun i => (World.frozen?_alloc_past _ _ _ htl).trans (cf i)
    have HS2 : Hid ((wr.alloc (.cells #[.int .i64 m, .int .u64 a, .slice (some ⟨gb, 0, none⟩) len wcap, .int .i64 2, .int .i64 0, .int .i64 r] 91)).heap.size = tb + 2) := Lib.hid (by have := HS.out; simp; omega)
    have HB2 := Lib.hid (HB0.out.alloc HB0.out.size (.cells #[.int .i64 m, .int .u64 a, .slice (some ⟨gb, 0, none⟩) len wcap, .int .i64 2, .int .i64 0, .int .i64 r] 91))
    clear q0 c cf
    generalize wr.alloc (.cells #[.int .i64 m, .int .u64 a, .slice (some ⟨gb, 0, none⟩) len wcap, .int .i64 2, .int .i64 0, .int .i64 r] 91) = w2 at *
    refine (twin_c gb len wcap m a 2 0 r F _ l1 l2 (by have := HB2.out.size; omega) (Lib.hid (fun p hp => (HB2.out.cell (p := ⟨gb, p, none⟩) hg).trans (HW.out p hp)))).mono ?_
    rintro e w3 ⟨g, cp, rfl, hg1, hg2, hw3, hf3, hb3⟩
    have p0 := (hb3.cell (p := ⟨tb, 0, none⟩) (by show tb < _; have := HS2.out; omega)).trans (c2 0)
    have q0 := (hb3.frozen (p := ⟨tb, 0, none⟩) (by show tb < _; have := HS2.out; omega)).trans (cf2 0)
    have p1 := (hb3.cell (p := ⟨tb, 1, none⟩) (by show tb < _; have := HS2.out; omega)).trans (c2 1)
    have q1 := (hb3.frozen (p := ⟨tb, 1, none⟩) (by show tb < _; have := HS2.out; omega)).trans (cf2 1)
    have p2 := (hb3.cell (p := ⟨tb, 2, none⟩) (by show tb < _; have := HS2.out; omega)).trans (c2 2)
    have q2 := (hb3.frozen (p := ⟨tb, 2, none⟩) (by show tb < _; have := HS2.out; omega)).trans (cf2 2)
    have p3 := (hb3.cell (p := ⟨tb, 3, none⟩) (by show tb < _; have := HS2.out; omega)).trans (c2 3)
    have q3 := (hb3.frozen (p := ⟨tb, 3, none⟩) (by show tb < _; have := HS2.out; omega)).trans (cf2 3)
    have HB3 := Lib.hid (HB2.out.trans (hb3.mono HB2.out.size))
    have HW3 := Lib.hid hw3
    have HF3 := Lib.hid hf3
    have hgt : tb + 1 ≤ g := by have := HS2.out; omega
    clear b0 b1 b2 b3 t0 t1 t2 t3 t4 t5 f2 f3 c2 cf2 hb3 hw3 hf3
    unfold pieceV
    go_wp2
    have z0 : ((((w3.setCell ⟨tb, 0, none⟩ (.int .i64 m)).setCell ⟨tb, 1, none⟩ (.int .u64 a)).setCell ⟨tb, 2, none⟩ (.slice (some ⟨g, 0, none⟩) len cp)).setCell ⟨tb, 3, none⟩ (.int .i64 2)).cell? ⟨tb, 0, none⟩ = some (.int .i64 m) := ((sf _ _ _ _ (by simp)).trans ((sf _ _ _ _ (by simp)).trans ((sf _ _ _ _ (by simp)).trans (World.cell?_setCell_same _ _ _ p0))))
    have z1 : ((((w3.setCell ⟨tb, 0, none⟩ (.int .i64 m)).setCell ⟨tb, 1, none⟩ (.int .u64 a)).setCell ⟨tb, 2, none⟩ (.slice (some ⟨g, 0, none⟩) len cp)).setCell ⟨tb, 3, none⟩ (.int .i64 2)).cell? ⟨tb, 1, none⟩ = some (.int .u64 a) := ((sf _ _ _ _ (by simp)).trans ((sf _ _ _ _ (by simp)).trans (World.cell?_setCell_same _ _ _ ((sf _ _ _ _ (by simp)).trans p1))))
    have z2 : ((((w3.setCell ⟨tb, 0, none⟩ (.int .i64 m)).setCell ⟨tb, 1, none⟩ (.int .u64 a)).setCell ⟨tb, 2, none⟩ (.slice (some ⟨g, 0, none⟩) len cp)).setCell ⟨tb, 3, none⟩ (.int .i64 2)).cell? ⟨tb, 2, none⟩ = some (.slice (some ⟨g, 0, none⟩) len cp) := ((sf _ _ _ _ (by simp)).trans (World.cell?_setCell_same _ _ _ ((sf _ _ _ _ (by simp)).trans ((sf _ _ _ _ (by simp)).trans p2))))
    have z3 : ((((w3.setCell ⟨tb, 0, none⟩ (.int .i64 m)).setCell ⟨tb, 1, none⟩ (.int .u64 a)).setCell ⟨tb, 2, none⟩ (.slice (some ⟨g, 0, none⟩) len cp)).setCell ⟨tb, 3, none⟩ (.int .i64 2)).cell? ⟨tb, 3, none⟩ = some (.int .i64 2) := (World.cell?_setCell_same _ _ _ ((sf _ _ _ _ (by simp)).trans ((sf _ _ _ _ (by simp)).trans ((sf _ _ _ _ (by simp)).trans p3))))
    have HBX : Hid (Below w.heap.size w ((((w3.setCell ⟨tb, 0, none⟩ (.int .i64 m)).setCell ⟨tb, 1, none⟩ (.int .u64 a)).setCell ⟨tb, 2, none⟩ (.slice (some ⟨g, 0, none⟩) len cp)).setCell ⟨tb, 3, none⟩ (.int .i64 2))) := Lib.hid ((((HB3.out.setCell (by have := HT.out; show _ ≤ tb; omega) _).setCell (by have := HT.out; show _ ≤ tb; omega) _).setCell (by have := HT.out; show _ ≤ tb; omega) _).setCell (by have := HT.out; show _ ≤ tb; omega) _)
    have HWX : Hid (WdAt ((((w3.setCell ⟨tb, 0, none⟩ (.int .i64 m)).setCell ⟨tb, 1, none⟩ (.int .u64 a)).setCell ⟨tb, 2, none⟩ (.slice (some ⟨g, 0, none⟩) len cp)).setCell ⟨tb, 3, none⟩ (.int .i64 2)) g len F) := Lib.hid (fun p hp => (sf _ _ _ _ (by intro e; injection e with e1 _; omega)).trans ((sf _ _ _ _ (by intro e; injection e with e1 _; omega)).trans ((sf _ _ _ _ (by intro e; injection e with e1 _; omega)).trans ((sf _ _ _ _ (by intro e; injection e with e1 _; omega)).trans (HW3.out p hp)))))
    have HFX : Hid (∀ p, ((((w3.setCell ⟨tb, 0, none⟩ (.int .i64 m)).setCell ⟨tb, 1, none⟩ (.int .u64 a)).setCell ⟨tb, 2, none⟩ (.slice (some ⟨g, 0, none⟩) len cp)).setCell ⟨tb, 3, none⟩ (.int .i64 2)).frozen? ⟨g, p, none⟩ = false) := Lib.hid (fun p => (World.frozen?_setCell _ _ _ _).trans ((World.frozen?_setCell _ _ _ _).trans ((World.frozen?_setCell _ _ _ _).trans ((World.frozen?_setCell _ _ _ _).trans (HF3.out p)))))
    have hsx : ((((w3.setCell ⟨tb, 0, none⟩ (.int .i64 m)).setCell ⟨tb, 1, none⟩ (.int .u64 a)).setCell ⟨tb, 2, none⟩ (.slice (some ⟨g, 0, none⟩) len cp)).setCell ⟨tb, 3, none⟩ (.int .i64 2)).heap.size = w3.heap.size := by simp [World.setCell]
    generalize (((w3.setCell ⟨tb, 0, none⟩ (.int .i64 m)).setCell ⟨tb, 1, none⟩ (.int .u64 a)).setCell ⟨tb, 2, none⟩ (.slice (some ⟨g, 0, none⟩) len cp)).setCell ⟨tb, 3, none⟩ (.int .i64 2) = w9 at *
    refine bodyPost_ret (v := .tuple #[pieceV m a g len cp 2, .bool true]) (by simp [results, Try.results31, go_sem, z0, z1, z2, z3, pieceV]) rfl ⟨g, cp, rfl, by have := HT.out; omega, by omega, HWX.out, HFX.out, HBX.out⟩
end Go.Proofs.Ytpjfjdncdiemlaa
