import Derived.Test.YtnbpgoacooddjaaIo
import Derived.Deep.Slices
import Derived.Deep.Fields
namespace Go.Proofs.Ytnbpgoacooddjaa.Mm
open Go.ChangeShapes Go.WideShapes Go.ChangeAt Go.RowKit Go.Maps Go.Deep
set_option linter.unusedVariables false
/-- A slice of acts that comes in. -/
def NxS (w : World) (a : Option Addr) (n : Nat) (X : Nat → Nx) : Prop := n = 0 ∨ ∃ b o, a = some ⟨b, o, none⟩ ∧ b < w.heap.size ∧ ∀ i, i < n → NxAt w b (o + i * 5) (X i) ∧ NxOk (X i)
theorem NxS.past {w w' : World} {a : Option Addr} {n : Nat} {X : Nat → Nx} (h : NxS w a n X) (hb : Below w.heap.size w w') : NxS w' a n X := by
  rcases h with h | ⟨b, o, e, hl, hc⟩
  · exact .inl h
  · exact .inr ⟨b, o, e, Nat.lt_of_lt_of_le hl hb.size, fun i hi => ⟨(hc i hi).1.kept fun q => hb.cell (p := ⟨b, q, none⟩) hl, (hc i hi).2⟩⟩
theorem nx_open {H : Type} {enc : TypeId × Value → H} {w : World} {base : Nat} {spare : Nat → Bool} {held : Bool} {a : Option Addr} {n cap : Nat} {d : DataW H} {p : List MemPlace} (h : DataW.Trod enc Try.prog w base spare held 82 (.slice a n cap) d p) : n ≤ 9223372036854775807 ∧ ∃ X, NxS w a n X := by
  obtain ⟨fuel, hf⟩ := h
  rcases open_slice_fields Try.underlying82 Try.underlying97 (by kernel_rfl) (by kernel_rfl) hf with ⟨hcs, _⟩ | ⟨x, l, c, m, D, Pl, hcs, _, hl, hm, hmm, _, hi⟩
  · simp [Value.cells] at hcs
    obtain ⟨rfl, rfl, rfl⟩ := hcs
    exact ⟨by omega, fun _ => ⟨0, 0, 0, 0, 0⟩, .inl rfl⟩
  · simp [Value.cells] at hcs
    obtain ⟨rfl, rfl, rfl⟩ := hcs
    refine ⟨by unfold maxLen at hm; omega, ?_⟩
    have hlm : n ≤ m := by rw [hmm]; split <;> omega
    obtain ⟨b, off, spot⟩ := x
    by_cases hn0 : n = 0
    · exact ⟨fun _ => ⟨0, 0, 0, 0, 0⟩, .inl hn0⟩
    have hspot : spot = none := by
      obtain ⟨ys, k, _, _, _, hfs⟩ := hi 0 (by omega)
      obtain ⟨v0, y0, c0, _, t0⟩ := hfs 0 _ rfl
      simpa [Addr.add] using World.cell?_spot c0
    subst hspot
    have hb : b < w.heap.size := by
      obtain ⟨ys, k, _, _, _, hfs⟩ := hi 0 (by omega)
      obtain ⟨v0, y0, c0, _, t0⟩ := hfs 0 _ rfl
      exact World.block_lt_of_cell? w ⟨b, off, none⟩ (by simpa [Addr.add] using c0)
    obtain ⟨F, hF, _⟩ := choose_nat (⟨0, 0, 0, 0, 0⟩ : Nx) (n := n) (p := fun i z => NxAt w b (off + i * 5) z ∧ NxOk z) (fun i hin => by
      obtain ⟨ys, k, _, _, _, hfs⟩ := hi i (by omega)
      obtain ⟨v0, y0, c0, _, t0⟩ := hfs 0 _ rfl
      obtain ⟨v1, y1, c1, _, t1⟩ := hfs 1 _ rfl
      obtain ⟨v2, y2, c2, _, t2⟩ := hfs 2 _ rfl
      obtain ⟨v3, y3, c3, _, t3⟩ := hfs 3 _ rfl
      obtain ⟨v4, y4, c4, _, t4⟩ := hfs 4 _ rfl
      obtain ⟨q0, h0, _⟩ := DataW.trod_int Try.underlying3 t0
      obtain ⟨q1, h1, _, w1⟩ := DataW.trod_int Try.underlying3 t1
      obtain ⟨q2, h2, _, w2⟩ := DataW.trod_int Try.underlying23 t2
      obtain ⟨q3, h3, _, w3⟩ := DataW.trod_int Try.underlying3 t3
      obtain ⟨q4, h4, _, w4⟩ := DataW.trod_int Try.underlying23 t4
      injection h0 with h0
      injection h1 with h1
      injection h2 with h2
      injection h3 with h3
      injection h4 with h4
      subst h0 h1 h2 h3 h4
      obtain ⟨q2, rfl, b2⟩ := nat_of_wf64 w2
      obtain ⟨q4, rfl, b4⟩ := nat_of_wf64 w4
      rw [Go.WideShapes.add_plain, ← Nat.add_assoc] at c0 c1 c2 c3 c4
      have hw1 := w1
      simp [Lit.wf, IntKind.min, IntKind.max, IntKind.signed, IntKind.bits] at hw1
      exact ⟨⟨q0, q1, q2, q3, q4⟩, ⟨c0, c1, c2, c3, c4⟩, ⟨⟨by show -9223372036854775808 ≤ q1; omega, by show q1 ≤ 9223372036854775807; omega, b2⟩, le_of_wfi w3, b4⟩⟩)
    exact ⟨F, .inr ⟨b, off, rfl, hb, hF⟩⟩
/-- The side that the law makes. -/
theorem bd0 (M : Me) (c : Nat) : Bd 0 (S0 M c) := ⟨Nat.le_refl _, fun _ _ => Nat.le_refl _, fun _ _ y hy => by cases hy⟩
set_option maxRecDepth 100000 in
set_option maxHeartbeats 20000000 in
theorem apart_walk (w : World) (a : Option Addr) (n cap : Nat) (X : Nat → Nx) (hX : NxS w a n X) (hn : n ≤ 9223372036854775807) (core other : Int) (addr : Nat) (ha : addr < 18446744073709551616) :
    Calls Try.prog 10 #[.slice a n cap, .int .i64 core, .int .i64 other, .int .u64 addr] w fun e w' => e = .returned (.bool true) ∧ Below w.heap.size w w' := by
  have HK := Lib.hid (known42_c w)
  have HX := Lib.hid hX
  clear hX
  go_enter Try.func10, Try.ntmps10
  go_upto_region 3 with (go_at_call 42; refine HK.out.mono ?_; rintro e w1 ⟨rfl, hb⟩; have HB1 := Lib.hid hb; clear hb)
  go_cut [52] from 29 to 52 (fun s wx => s = .bool (decide (200 < n ∨ core < 0 ∨ 3 < core ∨ other < 0 ∨ 3 < other ∨ core = other)) ∧ wx = w1)
  case first =>
    by_cases g0 : 200 < n
    · have d0 : decide ((200 : Int) < (n : Int)) = true := decide_eq_true (by omega)
      go_wp2_with fail
      go_meet
      case rel => exact ⟨by rw [decide_eq_true (by omega : 200 < n ∨ core < 0 ∨ 3 < core ∨ other < 0 ∨ 3 < other ∨ core = other)], rfl⟩
    · have d0 : decide ((200 : Int) < (n : Int)) = false := decide_eq_false (by omega)
      by_cases g1 : core < 0
      · have d1 : decide (core < 0) = true := decide_eq_true (by omega)
        go_wp2_with fail
        go_meet
        case rel => exact ⟨by rw [decide_eq_true (by omega : 200 < n ∨ core < 0 ∨ 3 < core ∨ other < 0 ∨ 3 < other ∨ core = other)], rfl⟩
      · have d1 : decide (core < 0) = false := decide_eq_false (by omega)
        by_cases g2 : 3 < core
        · have d2 : decide (3 < core) = true := decide_eq_true (by omega)
          go_wp2_with fail
          go_meet
          case rel => exact ⟨by rw [decide_eq_true (by omega : 200 < n ∨ core < 0 ∨ 3 < core ∨ other < 0 ∨ 3 < other ∨ core = other)], rfl⟩
        · have d2 : decide (3 < core) = false := decide_eq_false (by omega)
          by_cases g3 : other < 0
          · have d3 : decide (other < 0) = true := decide_eq_true (by omega)
            go_wp2_with fail
            go_meet
            case rel => exact ⟨by rw [decide_eq_true (by omega : 200 < n ∨ core < 0 ∨ 3 < core ∨ other < 0 ∨ 3 < other ∨ core = other)], rfl⟩
          · have d3 : decide (other < 0) = false := decide_eq_false (by omega)
            by_cases g4 : 3 < other
            · have d4 : decide (3 < other) = true := decide_eq_true (by omega)
              go_wp2_with fail
              go_meet
              case rel => exact ⟨by rw [decide_eq_true (by omega : 200 < n ∨ core < 0 ∨ 3 < core ∨ other < 0 ∨ 3 < other ∨ core = other)], rfl⟩
            · have d4 : decide (3 < other) = false := decide_eq_false (by omega)
              by_cases g5 : core = other
              · have d5 : (core == other) = true := by simpa using g5
                have G5 := Lib.hid g5
                clear g5
                go_wp2_with fail
                go_meet
                case rel => exact ⟨by rw [decide_eq_true (by have := G5.out; omega : 200 < n ∨ core < 0 ∨ 3 < core ∨ other < 0 ∨ 3 < other ∨ core = other)], rfl⟩
              · have d5 : (core == other) = false := by simpa using g5
                go_wp2_with fail
                go_meet
                case rel => exact ⟨by rw [decide_eq_false (by omega : ¬ (200 < n ∨ core < 0 ∨ 3 < core ∨ other < 0 ∨ 3 < other ∨ core = other))], rfl⟩
  case rest =>
    obtain ⟨rfl, h1⟩ := hcut
    obtain rfl := h1.symm
    by_cases hbad : 200 < n ∨ core < 0 ∨ 3 < core ∨ other < 0 ∨ 3 < other ∨ core = other
    · rw [decide_eq_true hbad]
      go_wp2
      go_ret
      exact ⟨rfl, HB1.out⟩
    · rw [decide_eq_false hbad]
      have HG : Hid (n ≤ 200 ∧ 0 ≤ core ∧ core ≤ 3 ∧ 0 ≤ other ∧ other ≤ 3 ∧ core ≠ other) := Lib.hid (by omega)
      clear hbad
      have HRG := Lib.hid (regs_c w1)
      go_upto_region 8 with (first
        | (go_at_call 44; refine HRG.out.mono ?_; rintro e w2 ⟨⟨u, rfl, hs⟩, hb⟩; have HSR := Lib.hid hs; have HB2 := Lib.hid (HB1.out.trans (hb.mono HB1.out.size)); clear hs hb)
        | (go_at_call 43; refine (new_two w2 u HSR.out).mono ?_; rintro e w3 ⟨⟨mb, v, B, C, rfl, hm⟩, hb⟩; have HM3 := Lib.hid hm; have HB3 := Lib.hid (HB2.out.trans (hb.mono HB2.out.size)); clear hm hb))
      have HFM : Hid (∀ k, (fun k => w2.heap.size ≤ k ∧ k < w3.heap.size) k → w.heap.size ≤ k ∧ k < w3.heap.size) := Lib.hid (fun k hk => ⟨Nat.le_trans HB2.out.size hk.1, hk.2⟩)
      generalize (fun k => w2.heap.size ≤ k ∧ k < w3.heap.size) = FM at HM3 HFM
      have hok1 : Okk other 4096 := by have := HG.out; exact ⟨by omega, by omega, by omega⟩
      have HO1 := Lib.hid hok1
      have hok2 : Okk other addr := by have := HG.out; exact ⟨by omega, by omega, ha⟩
      have HO2 := Lib.hid hok2
      clear hok1 hok2
      go_upto_region 11 with (go_at_call 45; refine (side_c HM3.out iM_cfg (c := 4) (by omega) (by omega)).mono ?_; rintro e w4 ⟨⟨p, L, V, rfl, hs, hlm⟩, hb⟩; have HS4 := Lib.hid hs; have HLM := Lib.hid hlm; have HM4 := Lib.hid (HM3.out.past hb); have HB4 := Lib.hid (HB3.out.trans (hb.mono HB3.out.size)); clear hs hb hlm)
      go_upto_region 12 with (go_at_call 46; refine (refill_c HS4.out (c := other) (x := 4096) HO1.out (by show 0 < 1000000000; omega)).mono ?_; rintro e w5 ⟨rfl, hs, hb⟩; have HS5 := Lib.hid hs; have HB5 := Lib.hid (HB4.out.trans (hb.mono HB3.out.size)); have HM5 := Lib.hid (HM4.out.kept hb.size (fun k hf => hb.block k (HFM.out k hf).2)); clear hs hb)
      have HBD : Hid (Bd 1 ((S0 iM 4).refill other 4096)) := Lib.hid (by
        have := (bd0 iM 4).act iM (x := ⟨3, other, 4096, 0, 0⟩) ⟨HO1.out, by show (0 : Int) ≤ _; omega, by show 0 < _; omega⟩
        exact this)
      have HSN : Hid (((S0 iM 4).refill other 4096).n = 4) := Lib.hid (act_n iM ⟨3, other, 4096, 0, 0⟩ (S0 iM 4))
      generalize (S0 iM 4).refill other 4096 = Sa at HS5 HBD HSN
      go_upto_region 15 with (first
        | (go_at_call 47; refine (cached_c HS5.out HO2.out).mono ?_; rintro e w6 ⟨rfl, h1⟩; obtain rfl := h1.symm)
        | (go_at_call 48; refine (held_c HS5.out HO2.out).mono ?_; rintro e w6 ⟨rfl, h1⟩; obtain rfl := h1.symm)
        | (go_at_call 49; refine (told_c HS5.out ha).mono ?_; rintro e w6 ⟨rfl, q, rfl⟩))
      have hbd : Below w5.heap.size w5 (w5.drewN q) := below_drewN (Below.refl _ _) q
      have HS6 := Lib.hid (HS5.out.past hbd)
      have HM6 := Lib.hid (HM5.out.past hbd)
      have HB6 := Lib.hid (HB5.out.trans (hbd.mono HB5.out.size))
      clear hbd
      generalize w5.drewN q = w6 at HS6 HM6 HB6 ⊢
      have hlo : w.heap.size ≤ w3.heap.size := HB3.out.size
      have HLO := Lib.hid hlo
      clear hlo HK HRG HS4 HS5 HM3 HM4 HM5 HB1 HB2 HB3 HB4 HB5
      go_wp2
      go_loopw [19, 20] (fun s19 _ wr => ∃ (i : Nat) (S' : Sd) (V' : Nat → Value), i ≤ n ∧ s19 = .int .i64 i ∧ Hid (SdC wr w3.heap.size p L V' S') ∧ Hid (MeC 184 187 wr FM mb iM v B C) ∧ Hid (Bd (1 + i) S') ∧ Hid (S'.n = 4) ∧ Hid (Oth other Sa S') ∧ Hid (Below w.heap.size w wr)) (fun s19 _ _ => n + 1 - (intOf s19).toNat)
      case atStart => exact ⟨0, Sa, V, by omega, rfl, HS6, HM6, HBD, HSN, Lib.hid (Oth.refl _ _), HB6⟩
      case round =>
        clear HS6 HM6 HBD HSN HB6
        obtain ⟨i, S', V', hi, rfl, HS, HM, HBD, HSN, HOT, HB⟩ := hrel
        by_cases hlt : i < n
        · obtain ⟨ab, ao, rfl, hab, hac⟩ : ∃ b o, a = some ⟨b, o, none⟩ ∧ b < w.heap.size ∧ ∀ i, i < n → NxAt w b (o + i * 5) (X i) ∧ NxOk (X i) := by
            rcases HX.out with h | h
            · omega
            · exact h
          have hat := (hac i hlt).1.kept (w' := wr) fun q => HB.out.cell (p := ⟨ab, q, none⟩) hab
          have HOK := Lib.hid (hac i hlt).2
          have gi : (i : Int) < n := by omega
          generalize X i = x at hat HOK
          obtain ⟨c0, c1, c2, c3, c4⟩ := hat
          have HNG := Lib.hid HG.out.1
          clear hac
          go_upto_region 20 with (fail)
          have hbd : Below wr.heap.size wr ((wr.alloc (.cells #[.int .i64 x.op, .int .i64 core, .int .u64 (x.ad : Nat), .int .i64 x.N, .int .u64 (x.v : Nat)] 97)).alloc (.cells #[.int .i64 x.op, .int .i64 core, .int .u64 (x.ad : Nat), .int .i64 x.N, .int .u64 (x.v : Nat)] 97)) := ((Below.refl _ _).alloc (Nat.le_refl _) _).alloc (by simp) _
          have hbd5 : Below wr.heap.size wr (wr.alloc (.cells #[.int .i64 x.op, .int .i64 core, .int .u64 (x.ad : Nat), .int .i64 x.N, .int .u64 (x.v : Nat)] 97)) := (Below.refl _ _).alloc (Nat.le_refl _) _
          have HS5 := Lib.hid (HS.out.past hbd5)
          have HM5 := Lib.hid (HM.out.past hbd5)
          have HB5 := Lib.hid (HB.out.trans (hbd5.mono HB.out.size))
          have HS6 := Lib.hid (HS.out.past hbd)
          have HM6 := Lib.hid (HM.out.past hbd)
          have HB6 := Lib.hid (HB.out.trans (hbd.mono HB.out.size))
          have hsz5 : (wr.alloc (.cells #[.int .i64 x.op, .int .i64 core, .int .u64 (x.ad : Nat), .int .i64 x.N, .int .u64 (x.v : Nat)] 97)).heap.size = wr.heap.size + 1 := by simp
          have HAT : Hid (NxAt ((wr.alloc (.cells #[.int .i64 x.op, .int .i64 core, .int .u64 (x.ad : Nat), .int .i64 x.N, .int .u64 (x.v : Nat)] 97)).alloc (.cells #[.int .i64 x.op, .int .i64 core, .int .u64 (x.ad : Nat), .int .i64 x.N, .int .u64 (x.v : Nat)] 97)) (wr.heap.size + 1) (0 + 0 * 5) ⟨x.op, core, x.ad, x.N, x.v⟩ ∧ wr.heap.size + 1 < ((wr.alloc (.cells #[.int .i64 x.op, .int .i64 core, .int .u64 (x.ad : Nat), .int .i64 x.N, .int .u64 (x.v : Nat)] 97)).alloc (.cells #[.int .i64 x.op, .int .i64 core, .int .u64 (x.ad : Nat), .int .i64 x.N, .int .u64 (x.v : Nat)] 97)).heap.size) := Lib.hid ⟨⟨World.cell?_alloc_at _ _ _ _ hsz5.symm, World.cell?_alloc_at _ _ _ _ hsz5.symm, World.cell?_alloc_at _ _ _ _ hsz5.symm, World.cell?_alloc_at _ _ _ _ hsz5.symm, World.cell?_alloc_at _ _ _ _ hsz5.symm⟩, by simp⟩
          have HYK : Hid (NxOk ⟨x.op, core, x.ad, x.N, x.v⟩) := Lib.hid ⟨by have := HG.out; have := HOK.out.k; exact ⟨by show -9223372036854775808 ≤ core; omega, by show core ≤ 9223372036854775807; omega, this.2.2⟩, HOK.out.n, HOK.out.v⟩
          have HNC := Lib.hid (noise_c (base := w.heap.size) (K := 1 + i) (n := 1) false HS6.out (by rw [HLM.out]; exact HM6.out) HFM.out HLO.out iM_cfg HBD.out (by have := HNG.out; omega) (fun _ => ⟨x.op, core, x.ad, x.N, x.v⟩) (fun _ _ => HYK.out) (some ⟨wr.heap.size + 1, 0, none⟩) 1 (.inr ⟨_, _, rfl, HAT.out.2, fun k hk => by obtain rfl : k = 0 := (by omega); exact HAT.out.1, .inl (Nat.le_refl _)⟩))
          rw [HLM.out] at HNC
          have b0 : (wr.alloc (.cells #[.int .i64 x.op, .int .i64 core, .int .u64 (x.ad : Nat), .int .i64 x.N, .int .u64 (x.v : Nat)] 97)).cell? ⟨wr.heap.size, 0, none⟩ = some (.int .i64 x.op) := World.cell?_alloc_at _ _ _ _ rfl
          have b1 : (wr.alloc (.cells #[.int .i64 x.op, .int .i64 core, .int .u64 (x.ad : Nat), .int .i64 x.N, .int .u64 (x.v : Nat)] 97)).cell? ⟨wr.heap.size, 1, none⟩ = some (.int .i64 core) := World.cell?_alloc_at _ _ _ _ rfl
          have b2 : (wr.alloc (.cells #[.int .i64 x.op, .int .i64 core, .int .u64 (x.ad : Nat), .int .i64 x.N, .int .u64 (x.v : Nat)] 97)).cell? ⟨wr.heap.size, 2, none⟩ = some (.int .u64 (x.ad : Nat)) := World.cell?_alloc_at _ _ _ _ rfl
          have b3 : (wr.alloc (.cells #[.int .i64 x.op, .int .i64 core, .int .u64 (x.ad : Nat), .int .i64 x.N, .int .u64 (x.v : Nat)] 97)).cell? ⟨wr.heap.size, 3, none⟩ = some (.int .i64 x.N) := World.cell?_alloc_at _ _ _ _ rfl
          have b4 : (wr.alloc (.cells #[.int .i64 x.op, .int .i64 core, .int .u64 (x.ad : Nat), .int .i64 x.N, .int .u64 (x.v : Nat)] 97)).cell? ⟨wr.heap.size, 4, none⟩ = some (.int .u64 (x.v : Nat)) := World.cell?_alloc_at _ _ _ _ rfl
          clear hbd hbd5 hsz5 c0 c1 c2 c3 c4
          by_cases p1 : x.op = 1
          · have q1 : (x.op == 1) = true := by simpa using p1
            have HOP : Hid (x.op = 1 ∨ x.op = 2 ∨ x.op = 3 ∨ x.op = 4 ∨ x.op = 9) := Lib.hid (by omega)
            clear p1
            go_wp2_with (go_at_call 50; refine HNC.out.mono ?_; rintro e w7 ⟨rfl, M', S'', V'', hq, _, hm, hs, hbd, hsn, hb⟩; obtain ⟨rfl, rfl⟩ := hq rfl; have HM7 := Lib.hid hm; have HS7 := Lib.hid hs; have HBD7 := Lib.hid hbd; have HSN7 := Lib.hid (hsn.trans HSN.out); have HB7 := Lib.hid (HB6.out.trans hb); clear hm hs hbd hsn hb hq)
            exact ⟨⟨i + 1, _, V'', by omega, by go_num, HS7, HM7, Lib.hid (by have := HBD7.out; rwa [Nat.add_assoc] at this), HSN7, Lib.hid (HOT.out.trans (act_oth iM (x := ⟨x.op, core, x.ad, x.N, x.v⟩) HG.out.2.2.2.2.2.symm HOP.out)), HB7⟩, by simp [intOf]; omega⟩
          · have q1 : (x.op == 1) = false := by simpa using p1
            clear p1
            by_cases p2 : x.op = 2
            · have q2 : (x.op == 2) = true := by simpa using p2
              have HOP : Hid (x.op = 1 ∨ x.op = 2 ∨ x.op = 3 ∨ x.op = 4 ∨ x.op = 9) := Lib.hid (by omega)
              clear p2
              go_wp2_with (go_at_call 50; refine HNC.out.mono ?_; rintro e w7 ⟨rfl, M', S'', V'', hq, _, hm, hs, hbd, hsn, hb⟩; obtain ⟨rfl, rfl⟩ := hq rfl; have HM7 := Lib.hid hm; have HS7 := Lib.hid hs; have HBD7 := Lib.hid hbd; have HSN7 := Lib.hid (hsn.trans HSN.out); have HB7 := Lib.hid (HB6.out.trans hb); clear hm hs hbd hsn hb hq)
              exact ⟨⟨i + 1, _, V'', by omega, by go_num, HS7, HM7, Lib.hid (by have := HBD7.out; rwa [Nat.add_assoc] at this), HSN7, Lib.hid (HOT.out.trans (act_oth iM (x := ⟨x.op, core, x.ad, x.N, x.v⟩) HG.out.2.2.2.2.2.symm HOP.out)), HB7⟩, by simp [intOf]; omega⟩
            · have q2 : (x.op == 2) = false := by simpa using p2
              clear p2
              by_cases p3 : x.op = 3
              · have q3 : (x.op == 3) = true := by simpa using p3
                have HOP : Hid (x.op = 1 ∨ x.op = 2 ∨ x.op = 3 ∨ x.op = 4 ∨ x.op = 9) := Lib.hid (by omega)
                clear p3
                go_wp2_with (go_at_call 50; refine HNC.out.mono ?_; rintro e w7 ⟨rfl, M', S'', V'', hq, _, hm, hs, hbd, hsn, hb⟩; obtain ⟨rfl, rfl⟩ := hq rfl; have HM7 := Lib.hid hm; have HS7 := Lib.hid hs; have HBD7 := Lib.hid hbd; have HSN7 := Lib.hid (hsn.trans HSN.out); have HB7 := Lib.hid (HB6.out.trans hb); clear hm hs hbd hsn hb hq)
                exact ⟨⟨i + 1, _, V'', by omega, by go_num, HS7, HM7, Lib.hid (by have := HBD7.out; rwa [Nat.add_assoc] at this), HSN7, Lib.hid (HOT.out.trans (act_oth iM (x := ⟨x.op, core, x.ad, x.N, x.v⟩) HG.out.2.2.2.2.2.symm HOP.out)), HB7⟩, by simp [intOf]; omega⟩
              · have q3 : (x.op == 3) = false := by simpa using p3
                clear p3
                by_cases p4 : x.op = 4
                · have q4 : (x.op == 4) = true := by simpa using p4
                  have HOP : Hid (x.op = 1 ∨ x.op = 2 ∨ x.op = 3 ∨ x.op = 4 ∨ x.op = 9) := Lib.hid (by omega)
                  clear p4
                  go_wp2_with (go_at_call 50; refine HNC.out.mono ?_; rintro e w7 ⟨rfl, M', S'', V'', hq, _, hm, hs, hbd, hsn, hb⟩; obtain ⟨rfl, rfl⟩ := hq rfl; have HM7 := Lib.hid hm; have HS7 := Lib.hid hs; have HBD7 := Lib.hid hbd; have HSN7 := Lib.hid (hsn.trans HSN.out); have HB7 := Lib.hid (HB6.out.trans hb); clear hm hs hbd hsn hb hq)
                  exact ⟨⟨i + 1, _, V'', by omega, by go_num, HS7, HM7, Lib.hid (by have := HBD7.out; rwa [Nat.add_assoc] at this), HSN7, Lib.hid (HOT.out.trans (act_oth iM (x := ⟨x.op, core, x.ad, x.N, x.v⟩) HG.out.2.2.2.2.2.symm HOP.out)), HB7⟩, by simp [intOf]; omega⟩
                · have q4 : (x.op == 4) = false := by simpa using p4
                  clear p4
                  by_cases p9 : x.op = 9
                  · have q9 : (x.op == 9) = true := by simpa using p9
                    have HOP : Hid (x.op = 1 ∨ x.op = 2 ∨ x.op = 3 ∨ x.op = 4 ∨ x.op = 9) := Lib.hid (by omega)
                    clear p9
                    go_wp2_with (go_at_call 50; refine HNC.out.mono ?_; rintro e w7 ⟨rfl, M', S'', V'', hq, _, hm, hs, hbd, hsn, hb⟩; obtain ⟨rfl, rfl⟩ := hq rfl; have HM7 := Lib.hid hm; have HS7 := Lib.hid hs; have HBD7 := Lib.hid hbd; have HSN7 := Lib.hid (hsn.trans HSN.out); have HB7 := Lib.hid (HB6.out.trans hb); clear hm hs hbd hsn hb hq)
                    exact ⟨⟨i + 1, _, V'', by omega, by go_num, HS7, HM7, Lib.hid (by have := HBD7.out; rwa [Nat.add_assoc] at this), HSN7, Lib.hid (HOT.out.trans (act_oth iM (x := ⟨x.op, core, x.ad, x.N, x.v⟩) HG.out.2.2.2.2.2.symm HOP.out)), HB7⟩, by simp [intOf]; omega⟩
                  · have q9 : (x.op == 9) = false := by simpa using p9
                    clear p9
                    go_wp2
                    exact ⟨⟨i + 1, S', V', by omega, by go_num, HS5, HM5, Lib.hid (HBD.out.same rfl rfl (by have := HBD.out.n; omega) (by omega)), HSN, HOT, HB5⟩, by simp [intOf]; omega⟩
        · have hin : i = n := by omega
          rw [hin]
          clear hlt hi hin
          have HCE : Hid (S'.C other addr = Sa.C other addr) := Lib.hid (HOT.out.C addr)
          have HHE : Hid (S'.H other addr = Sa.H other addr) := Lib.hid (HOT.out.H addr)
          have HT := Lib.hid (told_c HS.out ha)
          rw [HOT.out.T] at HT
          have HCC := Lib.hid (cached_c HS.out HO2.out)
          rw [HCE.out] at HCC
          have HHH := Lib.hid (held_c HS.out HO2.out)
          rw [HHE.out] at HHH
          go_wp2_with (first
            | (go_at_call 47; refine HCC.out.mono ?_; rintro e w7 ⟨rfl, h1⟩; obtain rfl := h1.symm)
            | (go_at_call 48; refine HHH.out.mono ?_; rintro e w7 ⟨rfl, h1⟩; obtain rfl := h1.symm)
            | (go_at_call 49; refine HT.out.mono ?_; rintro e w7 ⟨rfl, q, rfl⟩))
          go_ret
          exact ⟨rfl, below_drewN HB.out q⟩
end Go.Proofs.Ytnbpgoacooddjaa.Mm
