import Derived.Test.YtnbpgoacooddjaaIm
namespace Go.Proofs.Ytnbpgoacooddjaa.Mm
open Go.ChangeShapes Go.WideShapes Go.ChangeAt Go.RowKit Go.Maps
set_option linter.unusedVariables false
theorem write_cfg {w : World} {F : Nat → Prop} {p : Nat} {M : Me} {v : Value} {B C : Nat → Nat} (h : MeC 184 187 w F p M v B C) (hM : Cfg2 M) (x u : Nat) (hx : x < 18446744073709551616) (hu : u < 18446744073709551616) :
    ∃ (r : Int) (M' : Me), Cfg2 M' ∧ Calls Try.prog 51 #[.pointer (some ⟨p, 0, none⟩), .int .u64 x, .int .u64 u] w fun e w1 => e = .returned (.int .i64 r) ∧ Kp F w w1 ∧ MeC 184 187 w1 F p M' v B C := by
  by_cases hf : ∃ k o, Hs M x 0 k o
  · obtain ⟨k, o, hs⟩ := hf
    by_cases h8 : x % 8 = 0
    · cases hW : M.W k with
      | true => exact ⟨0, _, ld_cfg2 hM _ _ _, (write_y h (hs.eight h.ok h8) h8 hW hu).mono fun e w1 ⟨he, hm, hk⟩ => ⟨he, hk, hm⟩⟩
      | false => exact ⟨8, M, hM, (write_m h hs (.inr hW)).mono fun e w1 ⟨he, q, hq⟩ => by subst hq; have hb := below_drewN (Below.refl w.heap.size w) q; exact ⟨he, Kp.of_below hb, h.past hb⟩⟩
    · exact ⟨8, M, hM, (write_m h hs (.inl h8)).mono fun e w1 ⟨he, q, hq⟩ => by subst hq; have hb := below_drewN (Below.refl w.heap.size w) q; exact ⟨he, Kp.of_below hb, h.past hb⟩⟩
  · exact ⟨8, M, hM, (write_n h hx (fun k o hs => hf ⟨k, o, hs⟩)).mono fun e w1 ⟨he, q, hq⟩ => by subst hq; have hb := below_drewN (Below.refl w.heap.size w) q; exact ⟨he, Kp.of_below hb, h.past hb⟩⟩
section
variable {w : World} {lo p base K n : Nat} {L : Pl} {V : Nat → Value} {S : Sd} {FM : Nat → Prop} {M : Me} {vm : Value} {Bm Cm : Nat → Nat}
set_option maxRecDepth 100000 in
set_option maxHeartbeats 20000000 in
theorem noise_c (b : Bool) (h : SdC w lo p L V S) (hm : MeC 184 187 w FM L.m M vm Bm Cm) (hF : ∀ k, FM k → base ≤ k ∧ k < lo) (hbl : base ≤ lo) (hM : Cfg2 M) (hB : Bd K S) (hK : K + n ≤ 100000) (X : Nat → Nx) (hX : ∀ i, i < n → NxOk (X i)) (a : Option Addr) (cap : Nat)
    (hA : n = 0 ∨ ∃ ab ao, a = some ⟨ab, ao, none⟩ ∧ ab < w.heap.size ∧ (∀ i, i < n → NxAt w ab (ao + i * 5) (X i)) ∧ (n ≤ 1 ∨ ab < base)) :
    Calls Try.prog 50 #[.pointer (some ⟨p, 0, none⟩), .pointer (some ⟨L.m, 0, none⟩), .slice a n cap, .bool b] w fun e w' => e = .returned (.tuple #[]) ∧ ∃ M' S' V', (b = false → M' = M ∧ S' = actN M X S n) ∧ Cfg2 M' ∧ MeC 184 187 w' FM L.m M' vm Bm Cm ∧ SdC w' lo p L V' S' ∧ Bd (K + n) S' ∧ S'.n = S.n ∧ Below base w w' := by
  have H0 := Lib.hid h
  have HM0 := Lib.hid hm
  have HF := Lib.hid hF
  have HBL := Lib.hid hbl
  have HC0 := Lib.hid hM
  have HB0 := Lib.hid hB
  have HX := Lib.hid hX
  have HA := Lib.hid hA
  have HAT : Hid (∀ ab ao, a = some ⟨ab, ao, none⟩ → 0 < n → NxAt w ab (ao + 0 * 5) (X 0)) := Lib.hid (fun ab ao e h0 => by
    rcases hA with h1 | ⟨ab', ao', e', _, h1, _⟩
    · omega
    · rw [e] at e'
      injection e' with e'
      injection e' with e1 e2
      subst e1 e2
      exact h1 0 h0)
  clear h hm hF hbl hM hB hX hA
  go_enter Try.func50, Try.ntmps50
  go_wp2
  go_loopw [8, 9] (fun s8 _ wr => ∃ (i : Nat) (M' : Me) (S' : Sd) (V' : Nat → Value), i ≤ n ∧ s8 = .int .i64 i ∧ Hid (b = false → M' = M ∧ S' = actN M X S i) ∧ Hid (Cfg2 M') ∧ Hid (MeC 184 187 wr FM L.m M' vm Bm Cm) ∧ Hid (SdC wr lo p L V' S') ∧ Hid (Bd (K + i) S') ∧ Hid (S'.n = S.n) ∧ Hid (Below base w wr) ∧ Hid (∀ ab ao, a = some ⟨ab, ao, none⟩ → i < n → NxAt wr ab (ao + i * 5) (X i))) (fun s8 _ _ => n + 1 - (intOf s8).toNat)
  case atStart => exact ⟨0, M, S, V, by omega, rfl, Lib.hid (fun _ => ⟨rfl, rfl⟩), HC0, HM0, H0, HB0, Lib.hid rfl, Lib.hid (Below.refl _ _), HAT⟩
  case round =>
    obtain ⟨i, M', S', V', hi, rfl, HQ, HC, HM, HS, HB, HN, HW, HNX⟩ := hrel
    by_cases hlt : i < n
    · obtain ⟨ab, ao, rfl, hab, hor⟩ : ∃ ab ao, a = some ⟨ab, ao, none⟩ ∧ ab < w.heap.size ∧ (n ≤ 1 ∨ ab < base) := by
        rcases HA.out with h1 | ⟨ab, ao, e, h1, _, h2⟩
        · omega
        · exact ⟨ab, ao, e, h1, h2⟩
      have hat := HNX.out ab ao rfl hlt
      have hok := HX.out i hlt
      have HNF : Hid (∀ w', Below base w w' → ∀ ab' ao', some (⟨ab, ao, none⟩ : Addr) = some ⟨ab', ao', none⟩ → i + 1 < n → NxAt w' ab' (ao' + (i + 1) * 5) (X (i + 1))) := Lib.hid (fun w' hb ab' ao' e hl => by
        injection e with e
        injection e with e1 e2
        subst e1 e2
        rcases HA.out with h1 | ⟨ab2, ao2, e, _, h1, _⟩
        · omega
        · injection e with e
          injection e with e1 e2
          subst e1 e2
          exact (h1 (i + 1) hl).kept fun q => hb.cell (p := ⟨ab, q, none⟩) (by show ab < base; omega))
      have gi : (i : Int) < n := by omega
      have hKi : K + i ≤ 100000 := by omega
      have hbn : S'.N < 1000000000 := by have := HB.out.n; omega
      have hbl : ∀ d, d < S'.n → (S'.Wt d).length ≤ 1000000 := fun d hd => by have := HB.out.l d hd; omega
      have HBN := Lib.hid hbn
      have HBW := Lib.hid hbl
      have HBY := Lib.hid HB.out.y
      have HBD : Hid (∀ x, X i = x → Bd (K + (i + 1)) (S'.act M' x)) := Lib.hid (fun x e => by have := HB.out.act M' (x := x) (e ▸ hok); rwa [Nat.add_assoc] at this)
      have HQ2 : Hid (∀ x, X i = x → b = false → M' = M ∧ S'.act M' x = actN M X S (i + 1)) := Lib.hid (fun x e hb => by obtain ⟨e1, e2⟩ := HQ.out hb; refine ⟨e1, ?_⟩; show _ = (actN M X S i).act M (X i); rw [e, e1, e2])
      have HN2 : Hid (∀ x, (S'.act M' x).n = S.n) := Lib.hid (fun x => (act_n M' x S').trans HN.out)
      obtain ⟨x, hx⟩ : ∃ x, X i = x := ⟨_, rfl⟩
      rw [hx] at hat hok
      have HXI := Lib.hid hx
      have HOK := Lib.hid hok
      obtain ⟨c0, c1, c2, c3, c4⟩ := hat
      have hbd : Below wr.heap.size wr (wr.alloc (.cells #[.int .i64 x.op, .int .i64 x.core, .int .u64 (x.ad : Nat), .int .i64 x.N, .int .u64 (x.v : Nat)] 97)) := (Below.refl _ _).alloc (Nat.le_refl _) _
      have HS5 := Lib.hid (HS.out.past hbd)
      have HM5 := Lib.hid (HM.out.past hbd)
      have hbw : base ≤ wr.heap.size := Nat.le_trans HBL.out HS.out.los
      have HB5 := Lib.hid (HW.out.trans (hbd.mono hbw))
      clear hx hok hbn hbl hbd hbw hab hor hKi
      go_upto_region 4 with (fail)
      clear c0 c1 c2 c3 c4
      have c0 : (wr.alloc (.cells #[.int .i64 x.op, .int .i64 x.core, .int .u64 (x.ad : Nat), .int .i64 x.N, .int .u64 (x.v : Nat)] 97)).cell? ⟨wr.heap.size, 0, none⟩ = some (.int .i64 x.op) := World.cell?_alloc_at _ _ _ _ rfl
      have c1 : (wr.alloc (.cells #[.int .i64 x.op, .int .i64 x.core, .int .u64 (x.ad : Nat), .int .i64 x.N, .int .u64 (x.v : Nat)] 97)).cell? ⟨wr.heap.size, 1, none⟩ = some (.int .i64 x.core) := World.cell?_alloc_at _ _ _ _ rfl
      have c2 : (wr.alloc (.cells #[.int .i64 x.op, .int .i64 x.core, .int .u64 (x.ad : Nat), .int .i64 x.N, .int .u64 (x.v : Nat)] 97)).cell? ⟨wr.heap.size, 2, none⟩ = some (.int .u64 (x.ad : Nat)) := World.cell?_alloc_at _ _ _ _ rfl
      have c3 : (wr.alloc (.cells #[.int .i64 x.op, .int .i64 x.core, .int .u64 (x.ad : Nat), .int .i64 x.N, .int .u64 (x.v : Nat)] 97)).cell? ⟨wr.heap.size, 3, none⟩ = some (.int .i64 x.N) := World.cell?_alloc_at _ _ _ _ rfl
      have c4 : (wr.alloc (.cells #[.int .i64 x.op, .int .i64 x.core, .int .u64 (x.ad : Nat), .int .i64 x.N, .int .u64 (x.v : Nat)] 97)).cell? ⟨wr.heap.size, 4, none⟩ = some (.int .u64 (x.v : Nat)) := World.cell?_alloc_at _ _ _ _ rfl
      generalize wr.alloc (.cells #[.int .i64 x.op, .int .i64 x.core, .int .u64 (x.ad : Nat), .int .i64 x.N, .int .u64 (x.v : Nat)] 97) = W5 at HS5 HM5 HB5 c0 c1 c2 c3 c4 ⊢
      generalize wr.heap.size = bx at c0 c1 c2 c3 c4 ⊢
      by_cases p1 : x.op = 1
      · have HE : Hid (S'.act M' x = S'.fetch x.core x.ad (x.N.tmod 2 != 0)) := Lib.hid (by unfold Sd.act; rw [if_pos p1])
        have q1 : (x.op == 1) = true := by simpa using p1
        clear p1
        go_wp2_with (go_at_call 57; refine (fetch_c HS5.out (x.N.tmod 2 != 0) HOK.out.k HBN.out).mono ?_; rintro e w6 ⟨rfl, hs, hb⟩; have HS6 := Lib.hid hs; have HB6 := Lib.hid (HB5.out.trans (hb.mono HBL.out)); have HM6 := Lib.hid (HM5.out.kept hb.size (fun k hf => hb.block k (HF.out k hf).2)); clear hs hb)
        exact ⟨⟨i + 1, M', S'.act M' x, V', by omega, by go_num, Lib.hid (HQ2.out x HXI.out), HC, HM6, Lib.hid (by rw [HE.out]; exact HS6.out), Lib.hid (HBD.out x HXI.out), Lib.hid (HN2.out x), HB6, Lib.hid (HNF.out _ HB6.out)⟩, by simp [intOf]; omega⟩
      · have n1 := p1
        have q1 : (x.op == 1) = false := by simpa using p1
        clear p1
        by_cases p2 : x.op = 2
        · have HE : Hid (S'.act M' x = S'.ahead x.core x.ad) := Lib.hid (by unfold Sd.act; rw [if_neg n1]; rw [if_pos p2])
          have q2 : (x.op == 2) = true := by simpa using p2
          clear p2 n1
          go_wp2_with (go_at_call 129; refine (ahead_c HS5.out HOK.out.k HBN.out).mono ?_; rintro e w6 ⟨rfl, hs, hb⟩; have HS6 := Lib.hid hs; have HB6 := Lib.hid (HB5.out.trans (hb.mono HBL.out)); have HM6 := Lib.hid (HM5.out.kept hb.size (fun k hf => hb.block k (HF.out k hf).2)); clear hs hb)
          exact ⟨⟨i + 1, M', S'.act M' x, V', by omega, by go_num, Lib.hid (HQ2.out x HXI.out), HC, HM6, Lib.hid (by rw [HE.out]; exact HS6.out), Lib.hid (HBD.out x HXI.out), Lib.hid (HN2.out x), HB6, Lib.hid (HNF.out _ HB6.out)⟩, by simp [intOf]; omega⟩
        · have n2 := p2
          have q2 : (x.op == 2) = false := by simpa using p2
          clear p2
          by_cases p3 : x.op = 3
          · have HE : Hid (S'.act M' x = S'.refill x.core x.ad) := Lib.hid (by unfold Sd.act; rw [if_neg n1]; rw [if_neg n2]; rw [if_pos p3])
            have q3 : (x.op == 3) = true := by simpa using p3
            clear p3 n1 n2
            go_wp2_with (go_at_call 46; refine (refill_c HS5.out HOK.out.k HBN.out).mono ?_; rintro e w6 ⟨rfl, hs, hb⟩; have HS6 := Lib.hid hs; have HB6 := Lib.hid (HB5.out.trans (hb.mono HBL.out)); have HM6 := Lib.hid (HM5.out.kept hb.size (fun k hf => hb.block k (HF.out k hf).2)); clear hs hb)
            exact ⟨⟨i + 1, M', S'.act M' x, V', by omega, by go_num, Lib.hid (HQ2.out x HXI.out), HC, HM6, Lib.hid (by rw [HE.out]; exact HS6.out), Lib.hid (HBD.out x HXI.out), Lib.hid (HN2.out x), HB6, Lib.hid (HNF.out _ HB6.out)⟩, by simp [intOf]; omega⟩
          · have n3 := p3
            have q3 : (x.op == 3) = false := by simpa using p3
            clear p3
            by_cases p4 : x.op = 4
            · have HE : Hid (S'.act M' x = { S' with C := upd S'.C x.core x.ad none }) := Lib.hid (by unfold Sd.act; rw [if_neg n1]; rw [if_neg n2]; rw [if_neg n3]; rw [if_pos p4])
              have q4 : (x.op == 4) = true := by simpa using p4
              clear p4 n1 n2 n3
              go_wp2_with (go_at_call 130; refine (evict_c HS5.out HOK.out.k).mono ?_; rintro e w6 ⟨rfl, hs, hb⟩; have HS6 := Lib.hid hs; have HB6 := Lib.hid (HB5.out.trans (hb.mono HBL.out)); have HM6 := Lib.hid (HM5.out.kept hb.size (fun k hf => hb.block k (HF.out k hf).2)); clear hs hb)
              exact ⟨⟨i + 1, M', S'.act M' x, V', by omega, by go_num, Lib.hid (HQ2.out x HXI.out), HC, HM6, Lib.hid (by rw [HE.out]; exact HS6.out), Lib.hid (HBD.out x HXI.out), Lib.hid (HN2.out x), HB6, Lib.hid (HNF.out _ HB6.out)⟩, by simp [intOf]; omega⟩
            · have n4 := p4
              have q4 : (x.op == 4) = false := by simpa using p4
              clear p4
              by_cases p5 : x.op = 5
              · have HE : Hid (S'.act M' x = S'.tell M' x.ad) := Lib.hid (by unfold Sd.act; rw [if_neg n1]; rw [if_neg n2]; rw [if_neg n3]; rw [if_neg n4]; rw [if_pos p5])
                have q5 : (x.op == 5) = true := by simpa using p5
                clear p5 n1 n2 n3 n4
                go_wp2_with (go_at_call 131; refine (flow_c HS5.out HM5.out (fun k hf => (HF.out k hf).2) HC.out.cfg HOK.out.k.2.2).mono ?_; rintro e w6 ⟨⟨r, rfl⟩, hs, hb⟩; have HS6 := Lib.hid hs; have HB6 := Lib.hid (HB5.out.trans (hb.mono HBL.out)); have HM6 := Lib.hid (HM5.out.kept hb.size (fun k hf => hb.block k (HF.out k hf).2)); clear hs hb)
                exact ⟨⟨i + 1, M', S'.act M' x, V', by omega, by go_num, Lib.hid (HQ2.out x HXI.out), HC, HM6, Lib.hid (by rw [HE.out]; exact HS6.out), Lib.hid (HBD.out x HXI.out), Lib.hid (HN2.out x), HB6, Lib.hid (HNF.out _ HB6.out)⟩, by simp [intOf]; omega⟩
              · have n5 := p5
                have q5 : (x.op == 5) = false := by simpa using p5
                clear p5
                by_cases p6 : x.op = 6
                · have HE : Hid (S'.act M' x = S'.tell M' x.ad) := Lib.hid (by unfold Sd.act; rw [if_neg n1]; rw [if_neg n2]; rw [if_neg n3]; rw [if_neg n4]; rw [if_neg n5]; rw [if_pos p6])
                  have q6 : (x.op == 6) = true := by simpa using p6
                  clear p6 n1 n2 n3 n4 n5
                  go_wp2_with (go_at_call 52; refine (clean_c HS5.out HM5.out (fun k hf => (HF.out k hf).2) HC.out.cfg HOK.out.k.2.2).mono ?_; rintro e w6 ⟨rfl, hs, hb⟩; have HS6 := Lib.hid hs; have HB6 := Lib.hid (HB5.out.trans (hb.mono HBL.out)); have HM6 := Lib.hid (HM5.out.kept hb.size (fun k hf => hb.block k (HF.out k hf).2)); clear hs hb)
                  exact ⟨⟨i + 1, M', S'.act M' x, V', by omega, by go_num, Lib.hid (HQ2.out x HXI.out), HC, HM6, Lib.hid (by rw [HE.out]; exact HS6.out), Lib.hid (HBD.out x HXI.out), Lib.hid (HN2.out x), HB6, Lib.hid (HNF.out _ HB6.out)⟩, by simp [intOf]; omega⟩
                · have n6 := p6
                  have q6 : (x.op == 6) = false := by simpa using p6
                  clear p6
                  by_cases p7 : x.op = 7
                  · have HE : Hid (S'.act M' x = S'.inval x.core x.ad) := Lib.hid (by unfold Sd.act; rw [if_neg n1]; rw [if_neg n2]; rw [if_neg n3]; rw [if_neg n4]; rw [if_neg n5]; rw [if_neg n6]; rw [if_pos p7])
                    have q7 : (x.op == 7) = true := by simpa using p7
                    clear p7 n1 n2 n3 n4 n5 n6
                    go_wp2_with (go_at_call 53; refine (inval_c HS5.out x.core HOK.out.k.2.2 HBW.out).mono ?_; rintro e w6 ⟨rfl, ⟨V6, hs⟩, hb⟩; have HS6 := Lib.hid hs; have HB6 := Lib.hid (HB5.out.trans (hb.mono HBL.out)); have HM6 := Lib.hid (HM5.out.kept hb.size (fun k hf => hb.block k (HF.out k hf).2)); clear hs hb)
                    exact ⟨⟨i + 1, M', S'.act M' x, V6, by omega, by go_num, Lib.hid (HQ2.out x HXI.out), HC, HM6, Lib.hid (by rw [HE.out]; exact HS6.out), Lib.hid (HBD.out x HXI.out), Lib.hid (HN2.out x), HB6, Lib.hid (HNF.out _ HB6.out)⟩, by simp [intOf]; omega⟩
                  · have n7 := p7
                    have q7 : (x.op == 7) = false := by simpa using p7
                    clear p7
                    by_cases p8 : x.op = 8
                    · have HE : Hid (S'.act M' x = S'.deliver x.core x.N) := Lib.hid (by unfold Sd.act; rw [if_neg n1]; rw [if_neg n2]; rw [if_neg n3]; rw [if_neg n4]; rw [if_neg n5]; rw [if_neg n6]; rw [if_neg n7]; rw [if_pos p8])
                      have q8 : (x.op == 8) = true := by simpa using p8
                      clear p8 n1 n2 n3 n4 n5 n6 n7
                      go_wp2_with (go_at_call 55; refine (deliver_c HS5.out x.core x.N HOK.out.n HBW.out HBY.out).mono ?_; rintro e w6 ⟨rfl, ⟨V6, hs⟩, hb⟩; have HS6 := Lib.hid hs; have HB6 := Lib.hid (HB5.out.trans (hb.mono HBL.out)); have HM6 := Lib.hid (HM5.out.kept hb.size (fun k hf => hb.block k (HF.out k hf).2)); clear hs hb)
                      exact ⟨⟨i + 1, M', S'.act M' x, V6, by omega, by go_num, Lib.hid (HQ2.out x HXI.out), HC, HM6, Lib.hid (by rw [HE.out]; exact HS6.out), Lib.hid (HBD.out x HXI.out), Lib.hid (HN2.out x), HB6, Lib.hid (HNF.out _ HB6.out)⟩, by simp [intOf]; omega⟩
                    · have n8 := p8
                      have q8 : (x.op == 8) = false := by simpa using p8
                      clear p8
                      by_cases p9 : x.op = 9
                      · have HE : Hid (S'.act M' x = S'.sync x.core) := Lib.hid (by unfold Sd.act; rw [if_neg n1]; rw [if_neg n2]; rw [if_neg n3]; rw [if_neg n4]; rw [if_neg n5]; rw [if_neg n6]; rw [if_neg n7]; rw [if_neg n8]; rw [if_pos p9])
                        have q9 : (x.op == 9) = true := by simpa using p9
                        clear p9 n1 n2 n3 n4 n5 n6 n7 n8
                        go_wp2_with (go_at_call 56; refine (sync_c HS5.out x.core).mono ?_; rintro e w6 ⟨rfl, hs, hb⟩; have HS6 := Lib.hid hs; have HB6 := Lib.hid (HB5.out.trans (hb.mono HBL.out)); have HM6 := Lib.hid (HM5.out.kept hb.size (fun k hf => hb.block k (HF.out k hf).2)); clear hs hb)
                        exact ⟨⟨i + 1, M', S'.act M' x, V', by omega, by go_num, Lib.hid (HQ2.out x HXI.out), HC, HM6, Lib.hid (by rw [HE.out]; exact HS6.out), Lib.hid (HBD.out x HXI.out), Lib.hid (HN2.out x), HB6, Lib.hid (HNF.out _ HB6.out)⟩, by simp [intOf]; omega⟩
                      · have n9 := p9
                        have q9 : (x.op == 9) = false := by simpa using p9
                        clear p9
                        have HE : Hid (S'.act M' x = S') := Lib.hid (by unfold Sd.act; rw [if_neg n1]; rw [if_neg n2]; rw [if_neg n3]; rw [if_neg n4]; rw [if_neg n5]; rw [if_neg n6]; rw [if_neg n7]; rw [if_neg n8]; rw [if_neg n9])
                        clear n1 n2 n3 n4 n5 n6 n7 n8 n9
                        by_cases p10 : x.op = 10
                        · have q10 : (x.op == 10) = true := by simpa using p10
                          clear p10
                          cases b with
                          | true =>
                            obtain ⟨r, M2, hc2, hw2⟩ := write_cfg HM5.out HC.out x.ad x.v HOK.out.k.2.2 HOK.out.v
                            have HC2 := Lib.hid hc2
                            have HW2 := Lib.hid hw2
                            clear hc2 hw2
                            go_wp2_with (go_at_call 51; refine HW2.out.mono ?_; rintro e w6 ⟨rfl, hk, hm⟩; have HM6 := Lib.hid hm; have HS6 := Lib.hid (HS5.out.kp hk (fun k hf => (HF.out k hf).2)); have HB6 := Lib.hid (HB5.out.trans (hk.below (B := base) (Nat.le_trans HBL.out HS5.out.los) (fun k hf => (HF.out k hf).1))); clear hk hm)
                            exact ⟨⟨i + 1, M2, S'.act M' x, V', by omega, by go_num, Lib.hid (fun h => by cases h), HC2, HM6, Lib.hid (by rw [HE.out]; exact HS6.out), Lib.hid (HBD.out x HXI.out), Lib.hid (HN2.out x), HB6, Lib.hid (HNF.out _ HB6.out)⟩, by simp [intOf]; omega⟩
                          | false =>
                            go_wp2
                            exact ⟨⟨i + 1, M', S'.act M' x, V', by omega, by go_num, Lib.hid (fun _ => HQ2.out x HXI.out rfl), HC, HM5, Lib.hid (by rw [HE.out]; exact HS5.out), Lib.hid (HBD.out x HXI.out), Lib.hid (HN2.out x), HB5, Lib.hid (HNF.out _ HB5.out)⟩, by simp [intOf]; omega⟩
                        · have q10 : (x.op == 10) = false := by simpa using p10
                          clear p10
                          go_wp2
                          exact ⟨⟨i + 1, M', S'.act M' x, V', by omega, by go_num, Lib.hid (HQ2.out x HXI.out), HC, HM5, Lib.hid (by rw [HE.out]; exact HS5.out), Lib.hid (HBD.out x HXI.out), Lib.hid (HN2.out x), HB5, Lib.hid (HNF.out _ HB5.out)⟩, by simp [intOf]; omega⟩
    · have hin : i = n := by omega
      subst hin
      go_wp2
      refine bodyPost_end (v := .tuple #[]) (by simp [results, Try.results50, go_sem]) rfl ⟨rfl, M', S', V', HQ.out, HC.out, HM.out, HS.out, HB.out, HN.out, HW.out⟩
end
end Go.Proofs.Ytnbpgoacooddjaa.Mm
