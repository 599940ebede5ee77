import Derived.Deep.DrawnRows
import Derived.Test.YtpiafgmncfibmaaRz
import Derived.Test.YtpiafgmncfibmaaPx
import Derived.Test.YtpiafgmncfibmaaRows
import Derived.WalkKit
import Derived.ProofKit
import Derived.OpenShut
import Derived.Deep.QuietTactic
import Derived.BigQuiet
import Derived.Outline
import Derived.WalkSmall
import Derived.WalkLawsBesides
import Derived.WalkSpells
import Derived.BigGuardPart
import Derived.RegionTactic
import Derived.Deep.RegionHeld3
import Derived.Lib.Hide
import Derived.Deep.MidRow
import Derived.Below
import Derived.Deep.RegionWith
import Derived.Deep.OwnRows
import Derived.Deep.AppendLies
import Derived.Deep.RegionLaw
namespace Go.Proofs.Ytpiafgmncfibmaa
open Go.ChangeShapes Go.WideShapes Go.ChangeAt Go.RowKit
set_option linter.unusedVariables false

def dOf (L : List Int) (i : Nat) : Nat := (L[i]?.getD 0).toNat
theorem dOf_at {L : List Int} (h : ∀ x ∈ L, 0 ≤ x ∧ x < 256) : At (dOf L) 0 L := fun j x hx => by
  unfold dOf
  rw [Nat.zero_add, hx]
  have := (h x (List.mem_of_getElem? hx)).1
  simp
  omega
theorem dOf_lt {L : List Int} (h : ∀ x ∈ L, 0 ≤ x ∧ x < 256) (i : Nat) : dOf L i < 256 := by
  unfold dOf
  cases hx : L[i]? with
  | none => decide
  | some x =>
    have := h x (List.mem_of_getElem? hx)
    simp
    omega
theorem dOf_end {L : List Int} : dOf L L.length = 0 := by unfold dOf; rw [List.getElem?_eq_none (Nat.le_refl _)]; rfl
theorem dOf_get {L : List Int} (h : ∀ x ∈ L, 0 ≤ x ∧ x < 256) {i : Nat} (hi : i < L.length) : L[i]? = some ((dOf L i : Nat) : Int) := by
  have hx : L[i]? = some L[i] := List.getElem?_eq_getElem hi
  have := dOf_at h i _ hx
  rw [Nat.zero_add] at this
  rw [hx, this]
theorem bytes_range {P : Pg} (hR : Rt P) (hcd : ∀ i j, i < P.nm → j < P.cn i → P.cd i j < 256) : ∀ x ∈ P.bytes, 0 ≤ x ∧ x < 256 := by
  have h1 := hR.np
  have h2 := hR.nc
  have h3 := hR.nm
  intro x hx
  unfold Pg.bytes at hx
  simp only [List.mem_append, List.mem_cons, List.not_mem_nil, or_false] at hx
  rcases hx with (((((hx | hx) | hx) | hx) | hx) | hx) | hx
  · rcases hx with rfl | rfl | rfl | rfl <;> decide
  · omega
  · unfold poolB numB at hx
    obtain ⟨i, hi, hx⟩ := List.mem_flatMap.1 hx
    obtain ⟨k, hk, rfl⟩ := List.mem_map.1 hx
    omega
  · omega
  · unfold clsB fldsB at hx
    obtain ⟨i, hi, hx⟩ := List.mem_flatMap.1 hx
    have hi := List.mem_range.1 hi
    rcases List.mem_append.1 hx with hx | hx
    · have := hR.nf i hi
      simp at hx
      omega
    · obtain ⟨j, hj, rfl⟩ := List.mem_map.1 hx
      unfold fldV
      split <;> omega
  · omega
  · unfold Pg.mthsB at hx
    obtain ⟨i, hi, hx⟩ := List.mem_flatMap.1 hx
    have hi := List.mem_range.1 hi
    obtain ⟨a, b, c, e, f, g⟩ := hR.m i hi
    unfold Pg.mthB tysB codeB at hx
    simp only [List.mem_append, List.mem_cons, List.not_mem_nil, or_false] at hx
    rcases hx with ((((hx | hx) | hx) | (hx | hx)) | (hx | hx | hx)) | hx
    · omega
    · obtain ⟨j, hj, rfl⟩ := List.mem_map.1 hx; omega
    · omega
    · omega
    · obtain ⟨j, hj, rfl⟩ := List.mem_map.1 hx; omega
    · omega
    · omega
    · omega
    · obtain ⟨j, hj, rfl⟩ := List.mem_map.1 hx
      have := hcd i j hi (List.mem_range.1 hj)
      omega
/-- What is known of a right program's bytes. -/
structure PB (P : Pg) (d : Nat → Nat) : Prop where
  ok : prsE P.bytes.length d = none
  eqv : P.eqv (prs d)
  lt : ∀ i, d i < 256
  cell : ∀ i, i < P.bytes.length → P.bytes[i]? = some ((d i : Nat) : Int)
  fin : d P.bytes.length = 0
  big : 14 ≤ P.bytes.length ∧ P.bytes.length ≤ 1000000
theorem sumN_bound {F : Nat → Nat} {B : Nat} : ∀ {n : Nat}, (∀ i, i < n → F i ≤ B) → sumN F n ≤ n * B
  | 0, _ => Nat.zero_le _
  | n + 1, h => by
    have := sumN_bound (F := F) (n := n) fun i hi => h i (by omega)
    have := h n (by omega)
    show sumN F n + F n ≤ (n + 1) * B
    rw [Nat.succ_mul]
    omega
theorem pb_of {P : Pg} {A : Ad} (h : P.chk = 0) (hf : Fits P A) : PB P (dOf P.bytes) := by
  have hR := chk_rt h
  have hr := bytes_range hR hf.cd
  have hB := ba_iff.1 (dOf_at hr)
  refine ⟨f_prs hR hB, f_eqv hR hB hf.po hf.cd, dOf_lt hr, fun i hi => dOf_get hr hi, dOf_end, ?_⟩
  rw [bytes_len]
  have h1 := hR.np
  have h2 := hR.nc
  have h3 := hR.nm
  have h4 := sumN_bound (F := fun i => 1 + P.nf i) (B := 51) (n := P.nc) fun i hi => by have := hR.nf i hi; omega
  have h5 := sumN_bound (F := fun i => 6 + P.pn i + P.ln i + P.cn i) (B := 4142) (n := P.nm) fun i hi => by have := hR.m i hi; omega
  have h6 := sumN_le (F := fun i => 6 + P.pn i + P.ln i + P.cn i) (m := P.nm) (i := 0) (by have := hR.n0; omega)
  have h7 := hR.m 0 (by have := hR.n0; omega)
  refine ⟨?_, ?_⟩
  · omega
  · have : P.nc * 51 ≤ 50 * 51 := Nat.mul_le_mul_right _ h2
    have : P.nm * 4142 ≤ 100 * 4142 := Nat.mul_le_mul_right _ h3
    omega
theorem LB.bytesIn {B : Nat} {w : World} {g n cap m : Nat} {xs : List Int} {d : Nat → Nat} (h : LB B w g n cap xs) (hd : ∀ i, i < m → d i < 256) (hc : ∀ i, i < m → xs[i]? = some ((d i : Nat) : Int)) (hm : m ≤ 1000001) : BytesIn w (some ⟨g, 0, none⟩) m d :=
  ⟨by unfold Big; omega, hd, .inr ⟨g, 0, rfl, h.lt.2, fun i hi => by rw [Nat.zero_add]; exact h.cell (hc i hi)⟩⟩
def SomeT (w : World) (e : Ending) (w' : World) : Prop := e = .returned (.bool true) ∧ Below w.heap.size w w'
set_option maxRecDepth 100000 in
set_option maxHeartbeats 4000000 in
theorem fronts_c (P : Pg) (A : Ad) (ct : Int) (w : World) (h : PgAt w P A) (hf : Fits P A) : Calls Try.prog 7 #[.agg (P.cells A), .int .i64 ct] w (SomeT w) := by
  have HA : Hid (Below w.heap.size w (w.alloc (.cells (P.cells A) 26))) := Lib.hid ((Below.refl _ _).alloc (Nat.le_refl _) _)
  have HX := Lib.hid (box_cells w P A)
  have HP : Hid (∀ V, Below (w.heap.size + 1) (w.alloc (.cells (P.cells A) 26)) V → PgAt V P A ∧ Below w.heap.size w V) := Lib.hid fun V hb => (have hB := HA.out.trans (hb.mono (by omega)); ⟨h.kept (Kept.of hB), hB⟩)
  have HFit := Lib.hid hf
  have HFew : Hid (∀ V, PgAt V P A → Calls Try.prog 13 #[.agg (P.cells A)] V (SomeB V)) := Lib.hid fun V hV => few_c P A V hV hf
  have HByt : Hid (∀ V, PgAt V P A → Calls Try.prog 14 #[.agg (P.cells A)] V (BytesR P V)) := Lib.hid fun V hV => bytes_c P A V hV hf
  clear h hf
  obtain ⟨W0, hW0⟩ : ∃ W, W = w.alloc (.cells (P.cells A) 26) := ⟨_, rfl⟩
  have hsz : W0.heap.size = w.heap.size + 1 := by rw [hW0]; simp
  rw [← hW0] at HA HX HP
  obtain ⟨pa, pc, ca, cc, ma, mc, fa, fc, ppa, ppc, lla, llc, cda, cdc⟩ := A
  obtain ⟨np, po, nc, nf, ft, fv, nm, pn, pt, rt, ln, lt, sk, cn, cd⟩ := P
  replace hW0 : W0 = w.alloc (.cells #[.slice pa np pc, .slice ca nc cc, .slice ma nm mc] 26) := hW0
  have HW0 := Lib.hid hW0
  have HSz := Lib.hid hsz
  obtain ⟨e0, e1, e2⟩ := HX.out W0 (by rw [← hsz]; exact Below.refl _ _)
  clear hW0 hsz
  show Calls Try.prog 7 #[.agg #[.slice pa np pc, .slice ca nc cc, .slice ma nm mc], .int .i64 ct] w _
  go_enter Try.func7, Try.ntmps7
  go_wp2_with fail
  rw [← HW0.out]
  clear e0 e1 e2
  refine (known14_c W0).mono ?_
  rintro e V1 ⟨rfl, hb1⟩
  have HB1 : Hid (Below (w.heap.size + 1) W0 V1) := Lib.hid (HSz.out ▸ hb1)
  clear hb1
  obtain ⟨e0, e1, e2⟩ := HX.out V1 HB1.out
  go_wp2_with fail
  clear e0 e1 e2
  refine (HFew.out V1 (HP.out V1 HB1.out).1).mono ?_
  rintro e V2 ⟨⟨fb, rfl⟩, hb2⟩
  have HB2 : Hid (Below (w.heap.size + 1) W0 V2) := Lib.hid (HB1.out.trans (hb2.mono (by have := HB1.out.size; have := HSz.out; omega)))
  clear hb2
  obtain ⟨e0, e1, e2⟩ := HX.out V2 HB2.out
  cases fb with
  | false =>
    go_wp2
    go_ret
    exact ⟨rfl, (HP.out V2 HB2.out).2⟩
  | true =>
  go_wp2_with fail
  clear e0 e1 e2
  refine (HByt.out V2 (HP.out V2 HB2.out).1).mono ?_
  rintro e V3 ⟨⟨hc, rfl⟩ | ⟨hc, g, n, cap, rfl, hl⟩, hb3⟩
  · have HB3 : Hid (Below (w.heap.size + 1) W0 V3) := Lib.hid (HB2.out.trans (hb3.mono (by have := HB2.out.size; have := HSz.out; omega)))
    obtain ⟨E, hE⟩ : ∃ E, Pg.chk ⟨np, po, nc, nf, ft, fv, nm, pn, pt, rt, ln, lt, sk, cn, cd⟩ = E := ⟨_, rfl⟩
    rw [hE] at hc ⊢
    have dE : (E != 0) = true := by simpa using hc
    clear hc hE hb3
    go_wp2
    go_ret
    exact ⟨rfl, (HP.out V3 HB3.out).2⟩
  have HB3 : Hid (Below (w.heap.size + 1) W0 V3) := Lib.hid (HB2.out.trans (hb3.mono (by have := HB2.out.size; have := HSz.out; omega)))
  have HPB := Lib.hid (pb_of hc HFit.out)
  have hV2 : w.heap.size + 1 ≤ V2.heap.size := by have := HB2.out.size; have := HSz.out; omega
  have HG : Hid (LB (w.heap.size + 1) V3 g n cap (Pg.bytes ⟨np, po, nc, nf, ft, fv, nm, pn, pt, rt, ln, lt, sk, cn, cd⟩)) := Lib.hid (LB.mono hl hV2)
  have HEnd := Lib.hid (HP.out V3 HB3.out).2
  clear hc hl hb3 hV2 HByt HFew HX
  obtain ⟨L, hL⟩ : ∃ L, Pg.bytes ⟨np, po, nc, nf, ft, fv, nm, pn, pt, rt, ln, lt, sk, cn, cd⟩ = L := ⟨_, rfl⟩
  have HLn : Hid (L.length = n) := Lib.hid (by rw [← hL]; exact HG.out.1)
  obtain ⟨d, hd⟩ : ∃ d, dOf L = d := ⟨_, rfl⟩
  have HQ : Hid (prsE n d = none ∧ (∀ i, d i < 256) ∧ (∀ i, i < n → L[i]? = some ((d i : Nat) : Int)) ∧ d n = 0) := Lib.hid (by
    have h := HPB.out
    have e := HG.out.1
    subst hd hL
    rw [← e]
    exact ⟨h.ok, h.lt, h.cell, h.fin⟩)
  have hn : 14 ≤ n ∧ n ≤ 1000000 := by rw [← HG.out.1]; exact HPB.out.big
  obtain ⟨hn1, hn2⟩ := hn
  rw [hL] at HG
  have hcap := HG.out.cap
  clear hL hd HPB
  obtain ⟨t, hrem⟩ : ∃ t, ct.tmod (n : Int) = t := ⟨_, rfl⟩
  have ht2 : t < n := by rw [← hrem]; exact Int.tmod_lt_of_pos _ (by omega)
  have ht1 : -(n : Int) < t := by
    rw [← hrem]
    have h := Int.lt_tmod_of_pos ct (show (0 : Int) < n by omega)
    omega
  have HF1 : Hid (∀ c, c < n → Calls Try.prog 18 #[.slice (some ⟨g, 0, none⟩) c cap] V3 (ParseX V3 c d)) := Lib.hid fun c hc => parsex_c _ _ _ _ _ (Lib.hid (HG.out.bytesIn (fun i _ => HQ.out.2.1 i) (fun i hi => HQ.out.2.2.1 i (by omega)) (by omega)))
  have HFr : Hid (∀ c, c < n → prsE c d = some (c, 6)) := Lib.hid fun c hc => prs_front HQ.out.1 c hc
  have HMo : Hid (prsE (n + 1) d = some (n, 5)) := Lib.hid (prs_more HQ.out.1)
  by_cases ht0 : t < 0
  · have d0 : decide (t < 0) = true := decide_eq_true ht0
    obtain ⟨c, hc⟩ : ∃ c, (t + n).toNat = c := ⟨_, rfl⟩
    have hcn : c < n := by omega
    have HCE : Hid ((t + n : Int) = c) := Lib.hid (by omega)
    go_wp2_with fail
    clear d0 hc
    refine (HF1.out c hcn).mono ?_
    intro e V4 h
    rcases h.two with ⟨p, er, hx, he, hb⟩ | ⟨hx, _⟩
    · obtain ⟨rfl, rfl⟩ : p = c ∧ er = 6 := by
        have h9 := hx.out
        rw [HFr.out c hcn] at h9
        injection h9 with h9
        injection h9 with h9 h10
        exact ⟨h9.symm, h10.symm⟩
      obtain rfl : e = .returned (.tuple #[.agg #[.slice none 0 0, .slice none 0 0, .slice none 0 0], .int .i64 p, .int .i64 6]) := he
      rw [HCE.out]
      obtain ⟨V5, hV5⟩ : ∃ V, V = V4.alloc (.cells #[.slice none 0 0, .slice none 0 0, .slice none 0 0] 26) := ⟨_, rfl⟩
      have hs5 : V5.heap.size = V4.heap.size + 1 := by rw [hV5]; simp
      have HB5 : Hid (Below V3.heap.size V3 V5) := Lib.hid (by rw [hV5]; exact hb.alloc hb.size _)
      have HL6 : Hid (LB V5.heap.size (V5.alloc (.cells #[] 5)) (V4.heap.size + 1) 0 0 []) := Lib.hid (by
        rw [← hs5]
        exact ⟨rfl, World.ownsRow_made V5 #[] 0 (Nat.le_refl _) (by unfold maxLen; omega) rfl⟩)
      have HG6 : Hid (∀ j u, L[j]? = some u → (V5.alloc (.cells #[] 5)).cell? ((⟨g, 0, none⟩ : Addr).add j) = some (.int .u8 u)) := Lib.hid fun j u hu => by
        have h9 := (((HG.out.below HB5.out rfl).alloc (.cells #[] 5))).cell hu
        rw [Addr.add_lit, Nat.zero_add]
        exact h9
      have HV5 := Lib.hid (And.intro hV5 hs5)
      clear hb h hx hV5 hs5
      go_wp2_with (first | (at_builtin; rw [← HV5.out.1]; refine app_b rfl (.tmp 44) (.tmp 45) rfl V5 (V4.heap.size + 1) 0 0 [] (by rfl) HL6.out ((Below.refl _ _).alloc (Nat.le_refl _) _) ⟨g, 0, none⟩ n cap L (by rfl) HLn.out HG6.out (by omega) (by omega) ?_; intro g7 cap7 w7 hl7 be7 hg7 hgg7; rw [Nat.zero_add, List.nil_append] at hl7; rw [Nat.zero_add]; have HL7 := Lib.hid hl7; have HB7 := Lib.hid be7; clear hl7 be7 hg7 hgg7) | (at_builtin; refine app_1 rfl (.tmp 46) (.tmp 47) rfl V5 g7 n cap7 L 0 (by rfl) HL7.out HB7.out w7.heap.size (by rfl) rfl (by omega) ?_; intro g8 cap8 w8 hl8 be8 hg8 hgg8; have HL8 := Lib.hid hl8; have HB8 := Lib.hid be8; clear hl8 be8 hg8 hgg8))
      refine (parsex_c (some ⟨g8, 0, none⟩) (n + 1) cap8 d w8 (Lib.hid (HL8.out.bytesIn (fun i _ => HQ.out.2.1 i) (fun i hi => by
        by_cases hin : i < n
        · rw [List.getElem?_append_left (by rw [HLn.out]; exact hin)]; exact HQ.out.2.2.1 i hin
        · obtain rfl : i = n := by omega
          rw [List.getElem?_append_right (by rw [HLn.out]; exact Nat.le_refl _), HLn.out, Nat.sub_self, HQ.out.2.2.2]; rfl) (by omega)))).mono ?_
      intro e V9 h
      rcases h.two with ⟨p9, er, hx, he, hb⟩ | ⟨hx, _⟩
      · obtain ⟨rfl, rfl⟩ : p9 = n ∧ er = 5 := by
          have h9 := hx.out
          rw [HMo.out] at h9
          injection h9 with h9
          injection h9 with h9 h10
          exact ⟨h9.symm, h10.symm⟩
        obtain rfl : e = .returned (.tuple #[.agg #[.slice none 0 0, .slice none 0 0, .slice none 0 0], .int .i64 p9, .int .i64 5]) := he
        have HB9 := Lib.hid (HEnd.out.trans ((HB5.out.trans ((HB8.out.trans (hb.mono HB8.out.size)).mono HB5.out.size)).mono HEnd.out.size))
        clear hb h hx
        go_wp2
        go_ret
        exact ⟨rfl, HB9.out.alloc HB9.out.size _⟩
      · rw [HMo.out] at hx
        exact absurd hx.out (by simp)
    · rw [HFr.out c hcn] at hx
      exact absurd hx.out (by simp)
  · obtain ⟨c, rfl⟩ : ∃ c : Nat, t = c := ⟨t.toNat, by omega⟩
    have d0 : decide ((c : Int) < 0) = false := decide_eq_false ht0
    have hcn : c < n := by omega
    go_wp2_with fail
    clear d0
    refine (HF1.out c hcn).mono ?_
    intro e V4 h
    rcases h.two with ⟨p, er, hx, he, hb⟩ | ⟨hx, _⟩
    · obtain ⟨rfl, rfl⟩ : p = c ∧ er = 6 := by
        have h9 := hx.out
        rw [HFr.out c hcn] at h9
        injection h9 with h9
        injection h9 with h9 h10
        exact ⟨h9.symm, h10.symm⟩
      obtain rfl : e = .returned (.tuple #[.agg #[.slice none 0 0, .slice none 0 0, .slice none 0 0], .int .i64 p, .int .i64 6]) := he
      obtain ⟨V5, hV5⟩ : ∃ V, V = V4.alloc (.cells #[.slice none 0 0, .slice none 0 0, .slice none 0 0] 26) := ⟨_, rfl⟩
      have hs5 : V5.heap.size = V4.heap.size + 1 := by rw [hV5]; simp
      have HB5 : Hid (Below V3.heap.size V3 V5) := Lib.hid (by rw [hV5]; exact hb.alloc hb.size _)
      have HL6 : Hid (LB V5.heap.size (V5.alloc (.cells #[] 5)) (V4.heap.size + 1) 0 0 []) := Lib.hid (by
        rw [← hs5]
        exact ⟨rfl, World.ownsRow_made V5 #[] 0 (Nat.le_refl _) (by unfold maxLen; omega) rfl⟩)
      have HG6 : Hid (∀ j u, L[j]? = some u → (V5.alloc (.cells #[] 5)).cell? ((⟨g, 0, none⟩ : Addr).add j) = some (.int .u8 u)) := Lib.hid fun j u hu => by
        have h9 := (((HG.out.below HB5.out rfl).alloc (.cells #[] 5))).cell hu
        rw [Addr.add_lit, Nat.zero_add]
        exact h9
      have HV5 := Lib.hid (And.intro hV5 hs5)
      clear hb h hx hV5 hs5
      go_wp2_with (first | (at_builtin; rw [← HV5.out.1]; refine app_b rfl (.tmp 44) (.tmp 45) rfl V5 (V4.heap.size + 1) 0 0 [] (by rfl) HL6.out ((Below.refl _ _).alloc (Nat.le_refl _) _) ⟨g, 0, none⟩ n cap L (by rfl) HLn.out HG6.out (by omega) (by omega) ?_; intro g7 cap7 w7 hl7 be7 hg7 hgg7; rw [Nat.zero_add, List.nil_append] at hl7; rw [Nat.zero_add]; have HL7 := Lib.hid hl7; have HB7 := Lib.hid be7; clear hl7 be7 hg7 hgg7) | (at_builtin; refine app_1 rfl (.tmp 46) (.tmp 47) rfl V5 g7 n cap7 L 0 (by rfl) HL7.out HB7.out w7.heap.size (by rfl) rfl (by omega) ?_; intro g8 cap8 w8 hl8 be8 hg8 hgg8; have HL8 := Lib.hid hl8; have HB8 := Lib.hid be8; clear hl8 be8 hg8 hgg8))
      refine (parsex_c (some ⟨g8, 0, none⟩) (n + 1) cap8 d w8 (Lib.hid (HL8.out.bytesIn (fun i _ => HQ.out.2.1 i) (fun i hi => by
        by_cases hin : i < n
        · rw [List.getElem?_append_left (by rw [HLn.out]; exact hin)]; exact HQ.out.2.2.1 i hin
        · obtain rfl : i = n := by omega
          rw [List.getElem?_append_right (by rw [HLn.out]; exact Nat.le_refl _), HLn.out, Nat.sub_self, HQ.out.2.2.2]; rfl) (by omega)))).mono ?_
      intro e V9 h
      rcases h.two with ⟨p9, er, hx, he, hb⟩ | ⟨hx, _⟩
      · obtain ⟨rfl, rfl⟩ : p9 = n ∧ er = 5 := by
          have h9 := hx.out
          rw [HMo.out] at h9
          injection h9 with h9
          injection h9 with h9 h10
          exact ⟨h9.symm, h10.symm⟩
        obtain rfl : e = .returned (.tuple #[.agg #[.slice none 0 0, .slice none 0 0, .slice none 0 0], .int .i64 p9, .int .i64 5]) := he
        have HB9 := Lib.hid (HEnd.out.trans ((HB5.out.trans ((HB8.out.trans (hb.mono HB8.out.size)).mono HB5.out.size)).mono HEnd.out.size))
        clear hb h hx
        go_wp2
        go_ret
        exact ⟨rfl, HB9.out.alloc HB9.out.size _⟩
      · rw [HMo.out] at hx
        exact absurd hx.out (by simp)
    · rw [HFr.out c hcn] at hx
      exact absurd hx.out (by simp)
end Go.Proofs.Ytpiafgmncfibmaa
