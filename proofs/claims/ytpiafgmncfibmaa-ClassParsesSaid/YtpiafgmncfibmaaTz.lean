import Derived.Test.YtpiafgmncfibmaaTx
import Derived.Test.YtpiafgmncfibmaaCc
import Derived.Test.YtpiafgmncfibmaaRows
import Derived.WalkKit
import Derived.ProofKit
import Derived.OpenShut
import Derived.Deep.QuietTactic
import Derived.BigQuiet
import Derived.Outline
import Derived.WalkSmall
import Derived.WalkLawsBesides
import Derived.WalkSpells
import Derived.BigGuardPart
import Derived.RegionTactic
import Derived.Deep.RegionHeld3
import Derived.Lib.Hide
import Derived.Deep.MidRow
import Derived.Below
import Derived.Deep.RegionWith
import Derived.Deep.OwnRows
import Derived.Deep.AppendLies
import Derived.Deep.RegionLaw
namespace Go.Proofs.Ytpiafgmncfibmaa
open Go.ChangeShapes Go.WideShapes Go.ChangeAt Go.RowKit
set_option linter.unusedVariables false
/-- How many bytes a program's rows have at most. -/
structure FitsB (P : Pg) : Prop where
  np : P.np * 8 ≤ Big
  nc : P.nc * 24 ≤ Big
  nm : P.nm * 88 ≤ Big
  nf : ∀ i, i < P.nc → P.nf i * 16 ≤ Big
  pn : ∀ i, i < P.nm → P.pn i * 8 ≤ Big
  ln : ∀ i, i < P.nm → P.ln i * 8 ≤ Big
  cn : ∀ i, i < P.nm → P.cn i * 1 ≤ Big
theorem info45x : (Try.prog.info? 45).map (fun i => (i.zero, i.size, i.bytes)) = some (some (.slice none 0 0), 1, 24) := by kernel_rfl
theorem info50x : (Try.prog.info? 50).map (fun i => (i.zero, i.size, i.bytes)) = some (some (.agg #[.slice none 0 0, .int .i64 0, .slice none 0 0, .int .i64 0, .slice none 0 0]), 5, 88) := by kernel_rfl
/-- What Twin has made of the classes so far. -/
def TwC (lo : Nat) (w : World) (QB : Nat) (P : Pg) (pa' : Option Addr) (pc' : Nat) (i : Nat) (V : Value) (fa' : Nat → Option Addr) (fc' : Nat → Nat) : Prop :=
  w.ownsRow lo 2 1 (.slice pa' P.np pc') P.np (els1 P.np fun i => .int .i64 (P.po i)) ∧ BoxT w QB #[.slice pa' P.np pc', V, .slice none 0 0] 26 ∧
  w.ownsRow lo 45 1 V i (els1 i fun k => .slice (fa' k) (P.nf k) (fc' k)) ∧ ∀ k, k < i → w.ownsRow lo 47 2 (.slice (fa' k) (P.nf k) (fc' k)) (P.nf k) (els2 (P.nf k) (fun j => .int .i64 (P.ft k j)) (fun j => .bool (P.fv k j)))
theorem own_base {w : World} {B e s n : Nat} {v : Value} {xs : List Value} (h : w.ownsRow B e s v n xs) : ∀ g, v.ownBlock = some g → B ≤ g := by
  intro g hg
  rcases h.2 with ⟨rfl, _⟩ | ⟨g', cap, cur, rfl, hb, hw, _⟩
  · cases hg
  · obtain rfl := Option.some.inj hg
    exact hb
theorem BoxT.far {w : World} {b g : Nat} {C : Array Value} {e : Nat} (h : BoxT w b C e) (hne : b ≠ g) (k : Nat) (v : Value) : BoxT (w.setCell ⟨g, k, none⟩ v) b C e :=
  (heap_setCell_other w ⟨g, k, none⟩ b v hne).trans h
theorem tw_box5 {wr w4 w5 : World} {QB lo n : Nat} {C : Array Value} {V : Value} {xs : List Value} {o : Obj} (hbx : BoxT wr QB C 26) (hb4 : Below wr.drew.heap.size wr.drew w4) (hV : w4.ownsRow lo 45 1 V n xs) (hgrow : (w4.alloc o).grownBy w5 V.ownBlock) : BoxT w5 QB C 26 :=
  BoxT.keep (BoxT.keep (BoxT.keep (BoxT.keep hbx (.drew _)) (.below hb4)) (.alloc _ _)) (.grown hgrow (own_typed (own_keep hV (.alloc _ _))) (by decide))
theorem tw_step {W0 wr w4 w5 : World} {QB lo RB B i : Nat} {Z : Array Value} {P : Pg} {pa' : Option Addr} {pc' : Nat} {V : Value} {fa' : Nat → Option Addr} {fc' : Nat → Nat} {ga : Option Addr} {gc gg cap5 : Nat} {o : Obj}
    (HQ : TwC lo wr QB P pa' pc' i V fa' fc' ∧ BoxT wr RB Z 26 ∧ Below B W0 wr) (hb4 : Below wr.drew.heap.size wr.drew w4) (hown4 : w4.ownsRow wr.drew.heap.size 47 2 (.slice ga (P.nf i) gc) (P.nf i) (els2 (P.nf i) (fun j => .int .i64 (P.ft i j)) (fun j => .bool (P.fv i j))))
    (hgrow : (w4.alloc o).grownBy w5 V.ownBlock) (hown5 : w5.ownsRow lo 45 1 (.slice (some ⟨gg, 0, none⟩) (i + 1) cap5) (i + 1) (els1 i (fun k => .slice (fa' k) (P.nf k) (fc' k)) ++ [.slice ga (P.nf i) gc]))
    (hRB : RB ≠ QB) (hB : B ≤ lo) (hBQ : B ≤ QB) (hlo : lo ≤ wr.heap.size) (hW0 : B ≤ W0.heap.size) :
    ∃ fa'' fc'', TwC lo (w5.setCell ⟨QB, 1, none⟩ (.slice (some ⟨gg, 0, none⟩) (i + 1) cap5)) QB P pa' pc' (i + 1) (.slice (some ⟨gg, 0, none⟩) (i + 1) cap5) fa'' fc'' ∧ BoxT (w5.setCell ⟨QB, 1, none⟩ (.slice (some ⟨gg, 0, none⟩) (i + 1) cap5)) RB Z 26 ∧ Below B W0 (w5.setCell ⟨QB, 1, none⟩ (.slice (some ⟨gg, 0, none⟩) (i + 1) cap5)) := by
  obtain ⟨⟨h1, h2, h3, h4⟩, h5, h6⟩ := HQ
  have hV4 : (w4.alloc o).ownsRow lo 45 1 V i _ := own_keep (own_keep (own_keep h3 (.drew _)) (.below hb4)) (.alloc _ _)
  have kk : ∀ e, 45 ≠ e → KeepT e w4 w5 := fun e he => (KeepT.alloc w4 o).trans (.grown hgrow (own_typed hV4) he)
  have k0 : ∀ e, 45 ≠ e → KeepT e wr w5 := fun e he => ((KeepT.drew wr).trans (.below hb4)).trans (kk e he)
  have hbx := h2.keep (k0 26 (by decide))
  have ks : ∀ e, 26 ≠ e → KeepT e w5 (w5.setCell ⟨QB, 1, none⟩ (.slice (some ⟨gg, 0, none⟩) (i + 1) cap5)) := fun e he => .set hbx he
  refine ⟨fun k => if k = i then ga else fa' k, fun k => if k = i then gc else fc' k, ⟨own_keep h1 ((k0 2 (by decide)).trans (ks 2 (by decide))), ?_, ?_, ?_⟩, ?_, ?_⟩
  · exact hbx.set 1 _
  · rw [els1_succ, els1_congr (G := fun k => .slice (fa' k) (P.nf k) (fc' k)) (fun k hk => by simp [Nat.ne_of_lt hk])]
    simp only [if_pos]
    exact own_keep hown5 (ks 45 (by decide))
  · intro k hk
    by_cases e : k = i
    · subst e
      simp only [if_pos]
      exact own_mono (own_keep hown4 ((kk 47 (by decide)).trans (ks 47 (by decide)))) hlo
    · simp only [if_neg e]
      exact own_keep (h4 k (by omega)) ((k0 47 (by decide)).trans (ks 47 (by decide)))
  · exact (h5.keep (k0 26 (by decide))).far hRB 1 _
  · have a1 : Below B W0 w4 := (h6.drew).trans (hb4.mono (by have : wr.drew.heap.size = wr.heap.size := rfl; omega))
    have hs4 : B ≤ w4.heap.size := Nat.le_trans hW0 a1.size
    have a2 := a1.alloc hs4 o
    have a3 : Below B W0 w5 := a2.grown hgrow (Nat.le_trans hW0 a2.size) (fun q hq => Nat.le_trans hB (own_base hV4 q hq))
    exact a3.setCell (p := ⟨QB, 1, none⟩) hBQ _

def TwM (lo : Nat) (w : World) (QB : Nat) (P : Pg) (A : Ad) (j : Nat) (V : Value) : Prop :=
  (w.ownsRow lo 2 1 (.slice A.pa P.np A.pc) P.np (els1 P.np fun i => .int .i64 (P.po i)) ∧ BoxT w QB #[.slice A.pa P.np A.pc, .slice A.ca P.nc A.cc, V] 26 ∧
  w.ownsRow lo 45 1 (.slice A.ca P.nc A.cc) P.nc (els1 P.nc fun i => .slice (A.fa i) (P.nf i) (A.fc i)) ∧ (∀ i, i < P.nc → w.ownsRow lo 47 2 (.slice (A.fa i) (P.nf i) (A.fc i)) (P.nf i) (els2 (P.nf i) (fun j => .int .i64 (P.ft i j)) (fun j => .bool (P.fv i j))))) ∧
  w.ownsRow lo 50 5 V j (els5 j (P.mcells A)) ∧ ∀ k, k < j → w.ownsRow lo 3 1 (.slice (A.ppa k) (P.pn k) (A.ppc k)) (P.pn k) (els1 (P.pn k) fun i => .int .i64 (P.pt k i)) ∧ w.ownsRow lo 3 1 (.slice (A.lla k) (P.ln k) (A.llc k)) (P.ln k) (els1 (P.ln k) fun i => .int .i64 (P.lt k i)) ∧ w.ownsRow lo 5 1 (.slice (A.cda k) (P.cn k) (A.cdc k)) (P.cn k) (els1 (P.cn k) fun i => .int .u8 (P.cd k i : Nat))
theorem own_blk {w w' : World} {B e s n : Nat} {v : Value} {xs : List Value} (h : w.ownsRow B e s v n xs) (k : ∀ g, v.ownBlock = some g → g < w.heap.size → w'.heap[g]? = w.heap[g]?) : w'.ownsRow B e s v n xs := by
  refine ⟨h.1, ?_⟩
  rcases h.2 with h1 | ⟨g, cap, cur, rfl, hb, hg, r⟩
  · exact .inl h1
  · exact .inr ⟨g, cap, cur, rfl, hb, (k g rfl (Array.getElem?_eq_some_iff.1 hg).1).trans hg, r⟩
/-- The world behind a method's three stores. -/
def st3 (w : World) (MB : Nat) (a l d : Value) : World := ((w.setCell ⟨MB, 0, none⟩ a).setCell ⟨MB, 2, none⟩ l).setCell ⟨MB, 4, none⟩ d
theorem st3_box {w : World} {MB : Nat} {a b c d e x y z : Value} {t : Nat} (h : BoxT w MB #[a, b, c, d, e] t) : BoxT (st3 w MB x y z) MB #[x, b, y, d, z] t := ((h.set 0 x).set 2 y).set 4 z
theorem st3_far {w : World} {MB g : Nat} {x y z : Value} (hne : g ≠ MB) : (st3 w MB x y z).heap[g]? = w.heap[g]? :=
  (heap_setCell_other _ ⟨MB, 4, none⟩ g z hne).trans ((heap_setCell_other _ ⟨MB, 2, none⟩ g y hne).trans (heap_setCell_other _ ⟨MB, 0, none⟩ g x hne))
theorem st3_size (w : World) (MB : Nat) (x y z : Value) : (st3 w MB x y z).heap.size = w.heap.size := by unfold st3; simp
theorem st3_below {B : Nat} {W w : World} {MB : Nat} {x y z : Value} (h : Below B W w) (hb : B ≤ MB) : Below B W (st3 w MB x y z) := ((h.setCell (p := ⟨MB, 0, none⟩) hb x).setCell (p := ⟨MB, 2, none⟩) hb y).setCell (p := ⟨MB, 4, none⟩) hb z
theorem st3_keep {e : Nat} {w : World} {MB : Nat} {C : Array Value} {x y z : Value} (h : BoxT w MB C 50) (he : 50 ≠ e) : KeepT e w (st3 w MB x y z) := fun g C' f hg => by
  rw [st3_far]
  · exact hg
  · rintro rfl
    unfold BoxT at h
    rw [h] at hg
    injection hg with hg
    injection hg with _ h2 _
    exact he h2
theorem size_drew_alloc (w : World) (o : Obj) : (w.alloc o).drew.heap.size = w.heap.size + 1 := Array.size_push ..
/-- What stands behind the three clones and stores. -/
theorem tm_mid {W0 wr w6 : World} {QB lo RB B j : Nat} {Z : Array Value} {P : Pg} {A : Ad} {V : Value} {m0 m1 m2 m3 m4 x y z : Value}
    (HQ : TwM lo wr QB P A j V ∧ BoxT wr RB Z 26 ∧ Below B W0 wr) (hb6 : Below (wr.alloc (.cells #[m0, m1, m2, m3, m4] 50)).drew.heap.size (wr.alloc (.cells #[m0, m1, m2, m3, m4] 50)).drew w6) (hlo : lo ≤ wr.heap.size) (hB : B ≤ lo) :
    BoxT (st3 w6 wr.heap.size x y z) wr.heap.size #[x, m1, y, m3, z] 50 ∧ BoxT (st3 w6 wr.heap.size x y z) QB #[.slice A.pa P.np A.pc, .slice A.ca P.nc A.cc, V] 26 ∧ BoxT (st3 w6 wr.heap.size x y z) RB Z 26 ∧
    (st3 w6 wr.heap.size x y z).ownsRow lo 50 5 V j (els5 j (P.mcells A)) ∧ Below B W0 (st3 w6 wr.heap.size x y z) ∧ (∀ e, 50 ≠ e → KeepT e wr (st3 w6 wr.heap.size x y z)) := by
  obtain ⟨⟨⟨h1, h2, h3, h4⟩, h5, h7⟩, h8, h9⟩ := HQ
  have ka : ∀ e, KeepT e wr w6 := fun e => ((KeepT.alloc wr _).trans (.drew _)).trans (.below hb6)
  have hm : BoxT w6 wr.heap.size #[m0, m1, m2, m3, m4] 50 := BoxT.keep (BoxT.keep (show BoxT (wr.alloc (.cells #[m0, m1, m2, m3, m4] 50)) wr.heap.size _ 50 from heap_alloc_new _ _) (.drew _)) (.below hb6)
  have kb : ∀ e, 50 ≠ e → KeepT e wr (st3 w6 wr.heap.size x y z) := fun e he => (ka e).trans (st3_keep hm he)
  refine ⟨st3_box hm, h2.keep (kb 26 (by decide)), h8.keep (kb 26 (by decide)), ?_, ?_, kb⟩
  · refine own_blk (own_keep h5 (ka 50)) fun g hg _ => st3_far ?_
    rcases h5.2 with ⟨rfl, _⟩ | ⟨g', cap, cur, rfl, _, hg', _⟩
    · cases hg
    · obtain rfl := Option.some.inj hg
      exact Nat.ne_of_lt (Array.getElem?_eq_some_iff.1 hg').1
  · have a1 : Below B W0 (wr.alloc (.cells #[m0, m1, m2, m3, m4] 50)) := h9.alloc (by omega) _
    exact st3_below ((a1.drew).trans (hb6.mono (by have h1 := size_drew_alloc wr (.cells #[m0, m1, m2, m3, m4] 50); omega))) (by omega)
/-- Behind the three clones and stores. -/
def CutR (W0 wr : World) (QB lo RB B j : Nat) (Z : Array Value) (P : Pg) (A : Ad) (V : Value) (wx : World) : Prop := ∃ a0 c0 a1 c1 a2 c2,
  BoxT wx wr.heap.size #[.slice a0 (P.pn j) c0, .int .i64 (P.rt j), .slice a1 (P.ln j) c1, .int .i64 (P.sk j), .slice a2 (P.cn j) c2] 50 ∧ BoxT wx QB #[.slice A.pa P.np A.pc, .slice A.ca P.nc A.cc, V] 26 ∧ BoxT wx RB Z 26 ∧
    wx.ownsRow lo 50 5 V j (els5 j (P.mcells A)) ∧ Below B W0 wx ∧ (∀ e, 50 ≠ e → KeepT e wr wx) ∧
    wx.ownsRow lo 3 1 (.slice a0 (P.pn j) c0) (P.pn j) (els1 (P.pn j) fun i => .int .i64 (P.pt j i)) ∧ wx.ownsRow lo 3 1 (.slice a1 (P.ln j) c1) (P.ln j) (els1 (P.ln j) fun i => .int .i64 (P.lt j i)) ∧ wx.ownsRow lo 5 1 (.slice a2 (P.cn j) c2) (P.cn j) (els1 (P.cn j) fun i => .int .u8 (P.cd j i : Nat))
theorem cutR_mk {W0 wr Wd w4 w5 w6 : World} {QB lo RB B j : Nat} {Z : Array Value} {P : Pg} {A : Ad} {V : Value} {m0 m2 m4 : Value} {a0 a1 a2 : Option Addr} {c0 c1 c2 : Nat}
    (HQ : TwM lo wr QB P A j V ∧ BoxT wr RB Z 26 ∧ Below B W0 wr) (hWd : Wd = (wr.alloc (.cells #[m0, .int .i64 (P.rt j), m2, .int .i64 (P.sk j), m4] 50)).drew) (hlo : lo ≤ wr.heap.size) (hB : B ≤ lo)
    (hb4 : Below Wd.heap.size Wd w4) (ho4 : w4.ownsRow Wd.heap.size 3 1 (.slice a0 (P.pn j) c0) (P.pn j) (els1 (P.pn j) fun i => .int .i64 (P.pt j i)))
    (hb5 : Below w4.heap.size w4 w5) (ho5 : w5.ownsRow w4.heap.size 3 1 (.slice a1 (P.ln j) c1) (P.ln j) (els1 (P.ln j) fun i => .int .i64 (P.lt j i)))
    (hb6 : Below w5.heap.size w5 w6) (ho6 : w6.ownsRow w5.heap.size 5 1 (.slice a2 (P.cn j) c2) (P.cn j) (els1 (P.cn j) fun i => .int .u8 (P.cd j i : Nat))) :
    CutR W0 wr QB lo RB B j Z P A V (((w6.setCell ⟨wr.heap.size, 0, none⟩ (.slice a0 (P.pn j) c0)).setCell ⟨wr.heap.size, 2, none⟩ (.slice a1 (P.ln j) c1)).setCell ⟨wr.heap.size, 4, none⟩ (.slice a2 (P.cn j) c2)) := by
  have h5 := hb4.trans (hb5.mono hb4.size)
  have h6 := h5.trans (hb6.mono h5.size)
  have hs : Wd.heap.size = wr.heap.size + 1 := by rw [hWd]; exact size_drew_alloc _ _
  have hm : BoxT w6 wr.heap.size #[m0, .int .i64 (P.rt j), m2, .int .i64 (P.sk j), m4] 50 := BoxT.keep (show BoxT Wd wr.heap.size _ 50 by rw [hWd]; exact BoxT.keep (show BoxT (wr.alloc _) wr.heap.size _ 50 from heap_alloc_new _ _) (.drew _)) (.below h6)
  obtain ⟨x1, x2, x3, x4, x5, x6⟩ := tm_mid (x := .slice a0 (P.pn j) c0) (y := .slice a1 (P.ln j) c1) (z := .slice a2 (P.cn j) c2) HQ (hWd ▸ h6) hlo hB
  have h4s := hb4.size
  have h5s := hb5.size
  refine ⟨a0, c0, a1, c1, a2, c2, x1, x2, x3, x4, x5, x6, ?_, ?_, ?_⟩
  · exact own_mono (own_keep ho4 (((KeepT.below hb5).trans (.below hb6)).trans (st3_keep hm (by decide)))) (by omega)
  · exact own_mono (own_keep ho5 ((KeepT.below hb6).trans (st3_keep hm (by decide)))) (by omega)
  · exact own_mono (own_keep ho6 (st3_keep hm (by decide))) (by omega)
theorem tm_step {W0 wr w7 w8 : World} {QB lo RB B j : Nat} {Z : Array Value} {P : Pg} {A : Ad} {V : Value} {a0 a1 a2 : Option Addr} {c0 c1 c2 gg cap8 : Nat} {o : Obj}
    (HQ : TwM lo wr QB P A j V ∧ BoxT wr RB Z 26 ∧ Below B W0 wr)
    (h2 : BoxT w7 QB #[.slice A.pa P.np A.pc, .slice A.ca P.nc A.cc, V] 26) (h3 : BoxT w7 RB Z 26) (h4 : w7.ownsRow lo 50 5 V j (els5 j (P.mcells A))) (h5 : Below B W0 w7) (h6 : ∀ e, 50 ≠ e → KeepT e wr w7)
    (ra : w7.ownsRow lo 3 1 (.slice a0 (P.pn j) c0) (P.pn j) (els1 (P.pn j) fun i => .int .i64 (P.pt j i))) (rl : w7.ownsRow lo 3 1 (.slice a1 (P.ln j) c1) (P.ln j) (els1 (P.ln j) fun i => .int .i64 (P.lt j i))) (rd : w7.ownsRow lo 5 1 (.slice a2 (P.cn j) c2) (P.cn j) (els1 (P.cn j) fun i => .int .u8 (P.cd j i : Nat)))
    (hgrow : (w7.alloc o).grownBy w8 V.ownBlock) (hown8 : w8.ownsRow lo 50 5 (.slice (some ⟨gg, 0, none⟩) (j + 1) cap8) (j + 1) (els5 j (P.mcells A) ++ [.slice a0 (P.pn j) c0, .int .i64 (P.rt j), .slice a1 (P.ln j) c1, .int .i64 (P.sk j), .slice a2 (P.cn j) c2]))
    (hRB : RB ≠ QB) (hB : B ≤ lo) (hBQ : B ≤ QB) (hW0 : B ≤ W0.heap.size) :
    ∃ A', A'.pa = A.pa ∧ TwM lo (w8.setCell ⟨QB, 2, none⟩ (.slice (some ⟨gg, 0, none⟩) (j + 1) cap8)) QB P A' (j + 1) (.slice (some ⟨gg, 0, none⟩) (j + 1) cap8) ∧ BoxT (w8.setCell ⟨QB, 2, none⟩ (.slice (some ⟨gg, 0, none⟩) (j + 1) cap8)) RB Z 26 ∧ Below B W0 (w8.setCell ⟨QB, 2, none⟩ (.slice (some ⟨gg, 0, none⟩) (j + 1) cap8)) := by
  obtain ⟨⟨⟨g1, g2, g3, g4⟩, g5, g7⟩, g8, g9⟩ := HQ
  have hV : (w7.alloc o).ownsRow lo 50 5 V j _ := own_keep h4 (.alloc _ _)
  have kk : ∀ e, 50 ≠ e → KeepT e w7 w8 := fun e he => (KeepT.alloc w7 o).trans (.grown hgrow (own_typed hV) he)
  have hbx := h2.keep (kk 26 (by decide))
  have ks : ∀ e, 26 ≠ e → KeepT e w8 (w8.setCell ⟨QB, 2, none⟩ (.slice (some ⟨gg, 0, none⟩) (j + 1) cap8)) := fun e he => .set hbx he
  have k7 : ∀ e, 50 ≠ e → 26 ≠ e → KeepT e w7 (w8.setCell ⟨QB, 2, none⟩ (.slice (some ⟨gg, 0, none⟩) (j + 1) cap8)) := fun e h h' => (kk e h).trans (ks e h')
  have kw : ∀ e, 50 ≠ e → 26 ≠ e → KeepT e wr (w8.setCell ⟨QB, 2, none⟩ (.slice (some ⟨gg, 0, none⟩) (j + 1) cap8)) := fun e h h' => (h6 e h).trans (k7 e h h')
  refine ⟨⟨A.pa, A.pc, A.ca, A.cc, A.ma, A.mc, A.fa, A.fc, fun k => if k = j then a0 else A.ppa k, fun k => if k = j then c0 else A.ppc k, fun k => if k = j then a1 else A.lla k, fun k => if k = j then c1 else A.llc k, fun k => if k = j then a2 else A.cda k, fun k => if k = j then c2 else A.cdc k⟩, rfl,
    ⟨⟨own_keep g1 (kw 2 (by decide) (by decide)), hbx.set 2 _, own_keep g3 (kw 45 (by decide) (by decide)), fun i hi => own_keep (g4 i hi) (kw 47 (by decide) (by decide))⟩, ?_, ?_⟩, ?_, ?_⟩
  · rw [els5_succ, els5_congr (G := P.mcells A) (fun k hk => by unfold Pg.mcells; simp [Nat.ne_of_lt hk])]
    refine own_keep ?_ (ks 50 (by decide))
    unfold Pg.mcells
    simp only [if_pos]
    exact hown8
  · intro k hk
    by_cases e : k = j
    · subst e
      simp only [if_pos]
      exact ⟨own_keep ra (k7 3 (by decide) (by decide)), own_keep rl (k7 3 (by decide) (by decide)), own_keep rd (k7 5 (by decide) (by decide))⟩
    · simp only [if_neg e]
      obtain ⟨x, y, z⟩ := g7 k (by omega)
      exact ⟨own_keep x (kw 3 (by decide) (by decide)), own_keep y (kw 3 (by decide) (by decide)), own_keep z (kw 5 (by decide) (by decide))⟩
  · exact (h3.keep (kk 26 (by decide))).far hRB 2 _
  · have a2 := h5.alloc (Nat.le_trans hW0 h5.size) o
    have a3 : Below B W0 w8 := a2.grown hgrow (Nat.le_trans hW0 a2.size) (fun q hq => Nat.le_trans hB (own_base hV q hq))
    exact a3.setCell (p := ⟨QB, 2, none⟩) hBQ _
theorem tm_fin {wr w' : World} {QB lo lo' : Nat} {P : Pg} {A : Ad} {ma : Option Addr} {mc : Nat} (HQ : TwM lo wr QB P A P.nm (.slice ma P.nm mc)) (k : ∀ e, 26 ≠ e → KeepT e wr w') (hl : lo' ≤ lo) :
    PgOwn lo' w' P ⟨A.pa, A.pc, A.ca, A.cc, ma, mc, A.fa, A.fc, A.ppa, A.ppc, A.lla, A.llc, A.cda, A.cdc⟩ := by
  obtain ⟨⟨g1, g2, g3, g4⟩, g5, g7⟩ := HQ
  exact ⟨own_mono (own_keep g1 (k 2 (by decide))) hl, own_mono (own_keep g3 (k 45 (by decide))) hl, fun i hi => own_mono (own_keep (g4 i hi) (k 47 (by decide))) hl, own_mono (own_keep g5 (k 50 (by decide))) hl,
    fun i hi => own_mono (own_keep (g7 i hi).1 (k 3 (by decide))) hl, fun i hi => own_mono (own_keep (g7 i hi).2.1 (k 3 (by decide))) hl, fun i hi => own_mono (own_keep (g7 i hi).2.2 (k 5 (by decide))) hl⟩
theorem set3_keep {w : World} {b e : Nat} {C : Array Value} {x y z : Value} (h : BoxT w b C 26) (he : 26 ≠ e) : KeepT e w (((w.setCell ⟨b, 0, none⟩ x).setCell ⟨b, 1, none⟩ y).setCell ⟨b, 2, none⟩ z) :=
  ((KeepT.set h he).trans (.set (h.set 0 x) he)).trans (.set ((h.set 0 x).set 1 y) he)
end Go.Proofs.Ytpiafgmncfibmaa
