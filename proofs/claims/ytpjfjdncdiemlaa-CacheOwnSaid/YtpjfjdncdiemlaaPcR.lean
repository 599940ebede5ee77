import Derived.Test.YtpjfjdncdiemlaaRows
import Derived.WalkKit
import Derived.ProofKit
import Derived.OpenShut
import Derived.Deep.QuietTactic
import Derived.BigQuiet
import Derived.Outline
import Derived.WalkSmall
import Derived.WalkLawsBesides
import Derived.WalkSpells
import Derived.BigGuardPart
import Derived.RegionTactic
import Derived.Deep.RegionHeld3
import Derived.Lib.Hide
import Derived.Deep.OwnRows
import Derived.Maps.AppendAt
import Derived.Deep.AppendLies
import Derived.Below
import Derived.Test.YtpjfjdncdiemlaaPcE
import Derived.Deep.RegionLaw
namespace Go.Proofs.Ytpjfjdncdiemlaa
open Go.ChangeShapes Go.WideShapes Go.ChangeAt Go.RowKit
set_option linter.unusedVariables false
set_option maxRecDepth 100000 in
set_option maxHeartbeats 2000000 in
theorem lay_r (cb pb n cap at0 : Nat) (wd tk m a f r : Int) (wo : Option Addr) (wl wc : Nat) (x : Option Addr) (xl xc : Nat) (w : World) (hn : n ≤ 1000) (HC : Hid (PcAt w cb pb n cap at0 wd tk m a wo wl wc 2 f r)) :
    Calls Try.prog 27 #[.pointer (some ⟨cb, 0, none⟩), .int .i64 m, .slice x xl xc] w fun e w' => e = .returned (.int .i64 27) ∧ Below w.heap.size w w' := by
  go_enter Try.func27, Try.ntmps27
  go_wp2_with (go_at_call 45; refine (find0 cb pb n cap at0 wd tk m a _ _ _ _ f r _ hn HC).mono ?_; rintro e w1 ⟨rfl, hb⟩; have HC1 := Lib.hid (HC.out.below hb); have HB1 := Lib.hid hb; obtain ⟨h0, h1, h2, a0, a1, a2, a3, ⟨t0, t1, t2, t3, t4, t5⟩, f2, f3⟩ := HC1.out; clear hb)
  refine bodyPost_ret (v := .int .i64 27) (by simp [results, Try.results27, go_sem]) rfl ⟨rfl, HB1.out⟩
set_option maxRecDepth 100000 in
set_option maxHeartbeats 2000000 in
theorem tell_r (cb pb n cap at0 : Nat) (wd tk m a f r : Int) (wo : Option Addr) (wl wc : Nat) (y : Value) (w : World) (hn : n ≤ 1000) (HC : Hid (PcAt w cb pb n cap at0 wd tk m a wo wl wc 2 f r)) :
    Calls Try.prog 29 #[.pointer (some ⟨cb, 0, none⟩), .int .i64 m, y] w fun e w' => e = .returned (.int .i64 27) ∧ Below w.heap.size w w' := by
  go_enter Try.func29, Try.ntmps29
  go_wp2_with (go_at_call 45; refine (find0 cb pb n cap at0 wd tk m a _ _ _ _ f r _ hn HC).mono ?_; rintro e w1 ⟨rfl, hb⟩; have HC1 := Lib.hid (HC.out.below hb); have HB1 := Lib.hid hb; obtain ⟨h0, h1, h2, a0, a1, a2, a3, ⟨t0, t1, t2, t3, t4, t5⟩, f2, f3⟩ := HC1.out; clear hb)
  refine bodyPost_ret (v := .int .i64 27) (by simp [results, Try.results29, go_sem]) rfl ⟨rfl, HB1.out⟩
end Go.Proofs.Ytpjfjdncdiemlaa
