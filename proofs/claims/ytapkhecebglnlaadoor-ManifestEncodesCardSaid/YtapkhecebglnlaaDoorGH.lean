/- manifest: the document's Encode. -/
import Derived.Test.YtapkhecebglnlaaDoorGG
import Derived.Test.YtapkhecebglnlaaDoorDE
import Derived.Test.YtapkhecebglnlaaDoorGD
import Derived.Lib.Hide
import Derived.LoopN
import Derived.LoopTactic
import Derived.Deep.Onto
import Derived.Deep.RegionHeld3
import Derived.Deep.QuietTactic
import Derived.BigQuiet
import Derived.Laws.OwnMore
namespace Go.Proofs.YtapkhecebglnlaaDoor
set_option linter.unusedVariables false
set_option maxRecDepth 2000
set_option linter.unusedSimpArgs false
open Go.RowKit
theorem RStep_any (W n m N : Nat) (wd : Int) (ew : wd = (W : Int)) (eN : m + W * n = N) (q p : Option Addr) (c c2 : Nat) (g E : Nat → Int) (h1 : 1 ≤ W) (h8 : W ≤ 8) (hg : ∀ k, k < n → 0 ≤ g k ∧ g k ≤ 18446744073709551615 ∧ fitU W (g k) = true) (hE : Fits E m W n g) (hmc : m ≤ c) (hcx : c ≤ 9223372036854775807) (hnc : n ≤ c2) (hc2 : c2 ≤ 9223372036854775807) (hm : m ≤ 1000) (hn : n ≤ 1000) (w : World) (hq : Byt w q m E) (hp : Nm w .u64 p n g) :
    Calls Tryd.prog 24 #[.slice q m c, .int .i64 wd, .slice p n c2] w fun e w' => ∃ q1 c1, e = .returned (.tuple #[.slice q1 N c1, .int .i64 0]) ∧ w'.ownsRow w.heap.size 5 1 (.slice q1 N c1) N (nums .u8 E N) ∧ Below w.heap.size w w' := by
  subst ew
  have E0 := putE_fit W n g h1 h8 (fun k hk => (hg k hk).2.2)
  have P1 := RPut_any q p m c n c2 (W : Int) E g (fun k hk => ⟨(hg k hk).1, (hg k hk).2.1⟩) hmc hcx hnc hc2 (by omega) w hq hp
  rw [E0, Int.toNat_natCast, show putL m n (W : Int) 0 = m + W * n by simp [putL], eN] at P1
  refine P1.mono ?_
  rintro e w1 ⟨v, rfl, hrow, hb⟩
  obtain ⟨p1, d1, rfl, hd1⟩ := row_form hrow
  rw [nums_congr .u8 (g := E) (fun j hj => outF_fits hE (by rw [eN]; exact hj))] at hrow
  have eL := (byt_row hrow).1
  exact ⟨p1, d1, by rw [← eL], by rw [← eL] at hrow ⊢; exact hrow, hb⟩
theorem mask_at (mi mk ml : Int) (mg : Nat → Int) (mf mt ms mc : Int) (k : Nat) (hk : k < 8) (h : inB (mg k)) : encF mi mk ml mg mf mt ms mc (13 + k) = mg k := by
  rw [← Nat.add_zero (13 + k), enc_g mi mk ml mg mf mt ms mc k 0 hk (by decide), dg_byte h]

set_option maxHeartbeats 16000000 in
theorem REncode_any (mi mk ml : Int) (mg : Nat → Int) (mf mt ms mc : Int) (hi : 0 ≤ mi ∧ mi < 18446744073709551616) (hl : 0 ≤ ml ∧ ml < 4294967296) (hgb : ∀ j, j < 8 → inB (mg j)) (hf : 0 ≤ mf ∧ mf < 4294967296) (ht : 0 ≤ mt ∧ mt < 4294967296) (hs : -9223372036854775808 ≤ ms ∧ ms ≤ 9223372036854775807) (w : World) :
    Calls Tryd.prog 16 #[(.agg #[.int .u64 mi, .int .i64 mk, .int .u32 ml, .int .u8 (mg 0), .int .u8 (mg 1), .int .u8 (mg 2), .int .u8 (mg 3), .int .u8 (mg 4), .int .u8 (mg 5), .int .u8 (mg 6), .int .u8 (mg 7), .int .u32 mf, .int .u32 mt, .int .i64 ms, .int .i64 mc])] w fun e w' => ∃ v, e = .returned (.tuple #[v, .int .i64 (checkF mk mg mf mt ms mc)]) ∧ RowR w' v (encL (checkF mk mg mf mt ms mc)) (encF mi mk ml mg mf mt ms mc) ∧ Below w.heap.size w w' := by
  have FC := Lib.hid (RCheck_any mi mk ml mg mf mt ms mc hs)
  have OKF := Lib.hid (@check_ok mk mg mf mt ms mc)
  clear hs
  obtain ⟨z, ez⟩ : ∃ z, checkF mk mg mf mt ms mc = z := ⟨_, rfl⟩
  rw [ez] at FC OKF ⊢
  clear ez
  by_cases hz : z = 0
  · subst hz
    obtain ⟨⟨k1, k4⟩, m15, fl, s1, s2, ec, c1, c8⟩ := OKF.out rfl
    clear OKF ec
    have e1 : encL 0 = 35 := rfl
    rw [e1]
    obtain ⟨i0, hi0, hz0, hz1, hz2⟩ := infoB_parts
    have p8 := pw_vals.2.2.2.2.2.2.2; have p1 := pw_vals.1; have p4 := pw_vals.2.2.2.1; have p2 := pw_vals.2.1
    have S1 := Lib.hid (fun q c p w hmc hcx hq hp => RStep_any 8 1 0 8 8 rfl rfl q p c 1 (fun _ => mi) (encF mi mk ml mg mf mt ms mc) (by decide) (by decide) (fun k hk => ⟨by omega, by omega, fitU_of p8 (by omega)⟩) (fits_one (fun i hi => enc_i mi mk ml mg mf mt ms mc i hi)) hmc hcx (by decide) (by decide) (by omega) (by decide) w hq hp)
    have S2 := Lib.hid (fun q c p w hmc hcx hq hp => RStep_any 1 1 8 9 1 rfl rfl q p c 1 (fun _ => mk) (encF mi mk ml mg mf mt ms mc) (by decide) (by decide) (fun k hk => ⟨by omega, by omega, fitU_of p1 (by omega)⟩) (fits_one (fun i hi => enc_k mi mk ml mg mf mt ms mc i hi)) hmc hcx (by decide) (by decide) (by omega) (by decide) w hq hp)
    have S3 := Lib.hid (fun q c p w hmc hcx hq hp => RStep_any 4 1 9 13 4 rfl rfl q p c 1 (fun _ => ml) (encF mi mk ml mg mf mt ms mc) (by decide) (by decide) (fun k hk => ⟨by omega, by omega, fitU_of p4 (by omega)⟩) (fits_one (fun i hi => enc_l mi mk ml mg mf mt ms mc i hi)) hmc hcx (by decide) (by decide) (by omega) (by decide) w hq hp)
    have S5 := Lib.hid (fun q c p w hmc hcx hq hp => RStep_any 4 3 21 33 4 rfl rfl q p c 3 (fun k => if k = 0 then mf else if k = 1 then mt else ms) (encF mi mk ml mg mf mt ms mc) (by decide) (by decide) (fun k hk => by
        rcases (show k = 0 ∨ k = 1 ∨ k = 2 by omega) with rfl | rfl | rfl
        · exact ⟨hf.1, by have := hf.2; show mf ≤ _; omega, fitU_of p4 hf.2⟩
        · exact ⟨ht.1, by have := ht.2; show mt ≤ _; omega, fitU_of p4 ht.2⟩
        · exact ⟨by show 0 ≤ ms; omega, by show ms ≤ _; omega, fitU_of p4 (by show ms < _; omega)⟩) (fun k i hk hi => by
        rcases (show k = 0 ∨ k = 1 ∨ k = 2 by omega) with rfl | rfl | rfl
        · exact enc_f mi mk ml mg mf mt ms mc i hi
        · exact enc_t mi mk ml mg mf mt ms mc i hi
        · exact enc_s mi mk ml mg mf mt ms mc i hi) hmc hcx (by decide) (by decide) (by decide) (by decide) w hq hp)
    have S7 := Lib.hid (fun q c p w hmc hcx hq hp => RStep_any 2 1 33 35 2 rfl rfl q p c 1 (fun _ => mc) (encF mi mk ml mg mf mt ms mc) (by decide) (by decide) (fun k hk => ⟨by omega, by omega, fitU_of p2 (by omega)⟩) (fits_one (fun i hi => enc_c mi mk ml mg mf mt ms mc i hi)) hmc hcx (by decide) (by decide) (by omega) (by decide) w hq hp)
    have XG := Lib.hid (fun k (hk : k < 8) => show nums .u8 (encF mi mk ml mg mf mt ms mc) (13 + k) ++ [.int .u8 (mg k)] = nums .u8 (encF mi mk ml mg mf mt ms mc) (13 + k + 1) from nums_append .u8 (encF mi mk ml mg mf mt ms mc) (fun _ => mg k) (13 + k) 1 (fun i hi => by
        obtain rfl : i = 0 := by omega
        exact mask_at mi mk ml mg mf mt ms mc k hk (hgb k hk)))
    have MA := Lib.hid (mask_cell mi mk ml mg mf mt ms mc)
    have r1 : IntKind.u64.wrap mk = mk := IntWalk.u64_in _ (by omega)
    have r2 : IntKind.u64.wrap ml = ml := IntWalk.u64_in _ (by omega)
    have r3 : IntKind.u64.wrap mf = mf := IntWalk.u64_in _ (by omega)
    have r4 : IntKind.u64.wrap mt = mt := IntWalk.u64_in _ (by omega)
    have r5 : IntKind.u64.wrap ms = ms := IntWalk.u64_in _ (by omega)
    have r6 : IntKind.u64.wrap mc = mc := IntWalk.u64_in _ (by omega)
    clear hi hl hgb hf ht k1 k4 m15 fl s1 s2 c1 c8 p8 p1 p4 p2 e1
    generalize (encF mi mk ml mg mf mt ms mc) = E at *
    go_enter Tryd.func16, Tryd.ntmps16
    go_upto_region 1 with fail
    obtain ⟨W0, hW⟩ : ∃ W0, W0 = (w.alloc (.cells #[.int .u64 mi, .int .i64 mk, .int .u32 ml, .int .u8 (mg 0), .int .u8 (mg 1), .int .u8 (mg 2), .int .u8 (mg 3), .int .u8 (mg 4), .int .u8 (mg 5), .int .u8 (mg 6), .int .u8 (mg 7), .int .u32 mf, .int .u32 mt, .int .i64 ms, .int .i64 mc] 26)) := ⟨_, rfl⟩
    have hB0 : Below w.heap.size w W0 := hW ▸ (Below.al (Below.refl _ _))
    have HA : Hid (Own w.heap.size [.int .u64 mi, .int .i64 mk, .int .u32 ml, .int .u8 (mg 0), .int .u8 (mg 1), .int .u8 (mg 2), .int .u8 (mg 3), .int .u8 (mg 4), .int .u8 (mg 5), .int .u8 (mg 6), .int .u8 (mg 7), .int .u32 mf, .int .u32 mt, .int .i64 ms, .int .i64 mc] W0) := Lib.hid (hW ▸ (Own.newAt (by simp)))
    rw [← hW]
    clear hW
    obtain ⟨A, eA⟩ : ∃ X, X = w.heap.size := ⟨_, rfl⟩
    rw [← eA] at HA ⊢
    have Aw : w.heap.size ≤ A := by omega
    clear eA
    have HB0 := Lib.hid hB0
    clear hB0
    have oA := HA.out
    have A0 := oA.at 0 _ rfl
    have A1 := oA.at 1 _ rfl
    have A2 := oA.at 2 _ rfl
    have A3 := oA.at 3 _ rfl
    have A4 := oA.at 4 _ rfl
    have A5 := oA.at 5 _ rfl
    have A6 := oA.at 6 _ rfl
    have A7 := oA.at 7 _ rfl
    have A8 := oA.at 8 _ rfl
    have A9 := oA.at 9 _ rfl
    have A10 := oA.at 10 _ rfl
    have A11 := oA.at 11 _ rfl
    have A12 := oA.at 12 _ rfl
    have A13 := oA.at 13 _ rfl
    have A14 := oA.at 14 _ rfl
    have Al := oA.lt
    clear oA
    go_wp2_with (fail)
    go_at_call 13
    refine (FC.out _).mono ?_
    rintro e w1 ⟨rfl, hb⟩
    have HA1 := Lib.hid (HA.out.later hb)
    have HB1 := Lib.hid hb
    have AN := Lib.hid HA.out.lt
    clear hb FC HA A0 A1 A2 A3 A4 A5 A6 A7 A8 A9 A10 A11 A12 A13 A14 Al
    have oA := HA1.out
    have A0 := oA.at 0 _ rfl
    have Al := oA.lt
    clear oA
    go_wp2_with (fail)
    go_at_call 24
    have hAL := Below.al (o := .cells #[.int .u64 mi] 22) (Below.refl w1.heap.size w1)
    refine (S1.out _ _ _ _ (Nat.le_refl _) (by decide) (.inl rfl) (nm_new rfl)).mono ?_
    rintro e w2 ⟨q2, c2, rfl, hrow, hb⟩
    have hbt := Below.go hAL hb
    have HR2 := Lib.hid hrow
    have BY2 := Lib.hid (byt_of_row hrow)
    have HA2 := Lib.hid (HA1.out.later hbt)
    have HB2 := Lib.hid (Below.go HB1.out hbt)
    clear hrow hb hbt hAL HA1 A0 Al
    have oA := HA2.out
    have A1 := oA.at 1 _ rfl
    have Al := oA.lt
    clear oA
    go_wp2_with (fail)
    go_at_call 24
    have hAL := Below.al (o := .cells #[.int .u64 mk] 22) (Below.refl w2.heap.size w2)
    refine (S2.out _ _ _ _ BY2.out.2.2.1 BY2.out.2.2.2 (BY2.out.2.1.later hAL) (nm_new rfl)).mono ?_
    rintro e w3 ⟨q3, c3, rfl, hrow, hb⟩
    have hbt := Below.go hAL hb
    have HR3 := Lib.hid hrow
    have BY3 := Lib.hid (byt_of_row hrow)
    have HA3 := Lib.hid (HA2.out.later hbt)
    have HB3 := Lib.hid (Below.go HB2.out hbt)
    clear hrow hb hbt hAL HA2 A1 Al
    have oA := HA3.out
    have A2 := oA.at 2 _ rfl
    have Al := oA.lt
    clear oA
    go_wp2_with (fail)
    go_at_call 24
    have hAL := Below.al (o := .cells #[.int .u64 ml] 22) (Below.refl w3.heap.size w3)
    refine (S3.out _ _ _ _ BY3.out.2.2.1 BY3.out.2.2.2 (BY3.out.2.1.later hAL) (nm_new rfl)).mono ?_
    rintro e w4 ⟨q4, c4, rfl, hrow, hb⟩
    have hbt := Below.go hAL hb
    have HR4 := Lib.hid hrow
    have BY4 := Lib.hid (byt_of_row hrow)
    have HA4 := Lib.hid (HA3.out.later hbt)
    have HB4 := Lib.hid (Below.go HB3.out hbt)
    clear hrow hb hbt hAL HA3 A2 Al
    have HR5 := Lib.hid (row_base HR4.out (Below.al HB3.out).size)
    clear HB1 HB2 HB3 BY2 BY3 BY4 HR2 HR3 HR4
    go_wp2_with (fail)
    go_loopw [5, 7] (fun rv iv wr => ∃ (k : Nat) (q : Option Addr) (c : Nat), k ≤ 8 ∧ rv = .slice q (13 + k) c ∧ iv = .int .i64 k ∧ Hid (wr.ownsRow W0.heap.size 5 1 (.slice q (13 + k) c) (13 + k) (nums .u8 E (13 + k))) ∧ Hid (Own A [.int .u64 mi, .int .i64 mk, .int .u32 ml, .int .u8 (mg 0), .int .u8 (mg 1), .int .u8 (mg 2), .int .u8 (mg 3), .int .u8 (mg 4), .int .u8 (mg 5), .int .u8 (mg 6), .int .u8 (mg 7), .int .u32 mf, .int .u32 mt, .int .i64 ms, .int .i64 mc] wr) ∧ Hid (Below W0.heap.size W0 wr)) (fun _ iv _ => (8 - (intOf iv).toNat))
    case atStart => exact ⟨0, q4, c4, Nat.zero_le _, rfl, rfl, HR5, HA4, HB4⟩
    case round =>
      clear HR5 HA4 HB4
      obtain ⟨k, q, c, hk, rfl, rfl, ROW, HA4, HB⟩ := hrel
      by_cases hlt : k < 8
      · have hcell := HA4.out.at (3 + k) _ (MA.out k hlt)
        have XS := Lib.hid (XG.out k hlt)
        have hki : (k : Int) < 8 := by omega
        have k0 : (0 : Int) ≤ (k : Int) := by omega
        have wk : IntKind.i64.wrap ((k : Int) + 1) = (k : Int) + 1 := IntWalk.i64_in _ (by omega)
        have HLT := Lib.hid (show k + 1 ≤ 8 by omega)
        generalize mg k = x at hcell XS
        have Al := HA4.out.lt
        have N63 := Lib.hid (show 13 + k + 1 ≤ maxLen by unfold maxLen; omega)
        have NBY := Lib.hid (show (13 + k + 1) * 1 ≤ 140737488355328 by omega)
        have HS2 : Hid (W0.heap.size ≤ (wr.alloc (.cells #[.int .u8 x] 5)).heap.size) := Lib.hid (Below.al HB.out).size
        clear hlt hk MA XG S1 S2 S3 S5 S7
        go_wp2_with (at_builtin; refine wpList_append_own _ rfl _ _ 33 rfl W0.heap.size 5 i0 (.int .u8 0) 1 1 Tryd.underlying33 hi0 hz0 hz1 hz2 rfl (by decide) _ (13 + k) _ rfl (row_later ROW.out (Below.al (Below.refl _ _))) ⟨wr.heap.size, 0, none⟩ 1 1 [.int .u8 x] rfl rfl (Own.newAt (by rfl)).news (by intro v hv; cases hv with | head => rfl | tail _ h => nomatch h) N63.out NBY.out HS2.out ?_; intro v' w6 hrow hgr _; obtain ⟨p', c', rfl, _⟩ := row_form hrow; rw [XS.out] at hrow; have o4 := Lib.hid ((Below.al HB.out).grown hgr (Below.al HB.out).size fun q hq => row_ge ROW.out q hq); have oA := Lib.hid ((HA4.out.alloc).grown hgr (row_ne ROW.out AN.out)); have o6 := Lib.hid hrow; clear hrow hgr)
        have eL := (byt_row o6.out).1
        go_roundw
        case rel => (first | exact ⟨k + 1, _, _, HLT.out, by rw [← Nat.add_assoc, ← eL], by go_num, Lib.hid (by rw [← Nat.add_assoc]; rw [← eL] at o6 ⊢; exact o6.out), oA, o4⟩ | ((repeat apply Exists.intro); exact ⟨⟨k + 1, _, _, HLT.out, by rw [← Nat.add_assoc, ← eL], by go_num, Lib.hid (by rw [← Nat.add_assoc]; rw [← eL] at o6 ⊢; exact o6.out), oA, o4⟩, rfl⟩))
        case measure => (have := HLT.out; simp [intOf]; omega)
      · obtain rfl : k = 8 := by omega
        clear hlt hk MA XG S1 S2 S3
        have BY4 := Lib.hid (byt_of_row ROW.out)
        have HB4 := Lib.hid HB.out
        clear ROW HB
        have oA := HA4.out
        have A11 := oA.at 11 _ rfl
        have A12 := oA.at 12 _ rfl
        have A13 := oA.at 13 _ rfl
        have Al := oA.lt
        clear oA
        go_wp2_with (fail)
        go_at_call 24
        have hAL := Below.al (o := .cells #[.int .u64 mf, .int .u64 mt, .int .u64 ms] 22) (Below.refl wr.heap.size wr)
        refine (S5.out _ _ _ _ BY4.out.2.2.1 BY4.out.2.2.2 (BY4.out.2.1.later hAL) (nm_new rfl)).mono ?_
        rintro e w5 ⟨q5, c5, rfl, hrow, hb⟩
        have hbt := Below.go hAL hb
        have HR5 := Lib.hid hrow
        have BY5 := Lib.hid (byt_of_row hrow)
        have HA5 := Lib.hid (HA4.out.later hbt)
        have HB5 := Lib.hid (Below.go HB4.out hbt)
        clear hrow hb hbt hAL HA4 A11 A12 A13 Al
        have oA := HA5.out
        have A14 := oA.at 14 _ rfl
        have Al := oA.lt
        clear oA
        go_wp2_with (fail)
        go_at_call 24
        have hAL := Below.al (o := .cells #[.int .u64 mc] 22) (Below.refl w5.heap.size w5)
        refine (S7.out _ _ _ _ BY5.out.2.2.1 BY5.out.2.2.2 (BY5.out.2.1.later hAL) (nm_new rfl)).mono ?_
        rintro e w6 ⟨q6, c6, rfl, hrow, hb⟩
        have hbt := Below.go hAL hb
        have HR6 := Lib.hid hrow
        have BY6 := Lib.hid (byt_of_row hrow)
        have HA6 := Lib.hid (HA5.out.later hbt)
        have HB6 := Lib.hid (Below.go HB5.out hbt)
        clear hrow hb hbt hAL HA5 A14 Al
        have RW : Hid (RowR w6 (.slice q6 35 c6) 35 E) := Lib.hid ⟨q6, c6, rfl, BY6.out.2.2.1, BY6.out.2.2.2, BY6.out.2.1⟩
        go_wp2_with (fail)
        exact bodyPost_ret (v := .tuple #[.slice q6 35 c6, .int .i64 0]) (by simp [results, Tryd.results16, go_sem]) rfl ⟨_, rfl, RW.out, Below.go HB0.out HB6.out⟩
  · have e1 : encL z = 0 := if_neg hz
    rw [e1]
    have hd : (z != 0) = true := by simpa using hz
    clear OKF hi hl hgb hf ht
    go_enter Tryd.func16, Tryd.ntmps16
    go_upto_region 1 with fail
    obtain ⟨W0, hW⟩ : ∃ W0, W0 = (w.alloc (.cells #[.int .u64 mi, .int .i64 mk, .int .u32 ml, .int .u8 (mg 0), .int .u8 (mg 1), .int .u8 (mg 2), .int .u8 (mg 3), .int .u8 (mg 4), .int .u8 (mg 5), .int .u8 (mg 6), .int .u8 (mg 7), .int .u32 mf, .int .u32 mt, .int .i64 ms, .int .i64 mc] 26)) := ⟨_, rfl⟩
    have hB0 : Below w.heap.size w W0 := hW ▸ (Below.al (Below.refl _ _))
    have HA : Hid (Own w.heap.size [.int .u64 mi, .int .i64 mk, .int .u32 ml, .int .u8 (mg 0), .int .u8 (mg 1), .int .u8 (mg 2), .int .u8 (mg 3), .int .u8 (mg 4), .int .u8 (mg 5), .int .u8 (mg 6), .int .u8 (mg 7), .int .u32 mf, .int .u32 mt, .int .i64 ms, .int .i64 mc] W0) := Lib.hid (hW ▸ (Own.newAt (by simp)))
    rw [← hW]
    clear hW
    obtain ⟨A, eA⟩ : ∃ X, X = w.heap.size := ⟨_, rfl⟩
    rw [← eA] at HA ⊢
    have Aw : w.heap.size ≤ A := by omega
    clear eA
    have HB0 := Lib.hid hB0
    clear hB0
    have oA := HA.out
    have A0 := oA.at 0 _ rfl
    have A1 := oA.at 1 _ rfl
    have A2 := oA.at 2 _ rfl
    have A3 := oA.at 3 _ rfl
    have A4 := oA.at 4 _ rfl
    have A5 := oA.at 5 _ rfl
    have A6 := oA.at 6 _ rfl
    have A7 := oA.at 7 _ rfl
    have A8 := oA.at 8 _ rfl
    have A9 := oA.at 9 _ rfl
    have A10 := oA.at 10 _ rfl
    have A11 := oA.at 11 _ rfl
    have A12 := oA.at 12 _ rfl
    have A13 := oA.at 13 _ rfl
    have A14 := oA.at 14 _ rfl
    have Al := oA.lt
    clear oA
    go_wp2_with (fail)
    go_at_call 13
    refine (FC.out _).mono ?_
    rintro e w1 ⟨rfl, hb⟩
    have HB1 := Lib.hid (Below.go HB0.out hb)
    clear hb FC HA HB0 A0 A1 A2 A3 A4 A5 A6 A7 A8 A9 A10 A11 A12 A13 A14 Al
    go_wp2_with (fail)
    exact bodyPost_ret (v := .tuple #[.slice none 0 0, .int .i64 z]) (by simp [results, Tryd.results16, go_sem]) rfl ⟨_, rfl, ⟨none, 0, rfl, Nat.le_refl _, by decide, .inl rfl⟩, HB1.out⟩
end Go.Proofs.YtapkhecebglnlaaDoor
