/- AeadParts: the walk. -/
import Derived.Test.YtjkeaiihjbcfgaaDoorYEN
import Derived.Lib.Hide
import Derived.Deep.Onto
import Derived.Laws.OwnMore
import Derived.LoopN
import Derived.LoopTactic
import Derived.Great.BuildSlice
namespace Go.Proofs.YtjkeaiihjbcfgaaDoor
set_option linter.unusedVariables false
set_option maxRecDepth 2000
set_option linter.unusedSimpArgs false
open Go.RowKit
/-- the round of the k-th part -/
theorem part_round (f g : Nat → Int) (n m k : Nat) (hk : k < 2) : ∃ A B L : Nat, ∃ h : Nat → Int, A = layT n m (2 * k) ∧ B = layT n m (2 * (k + 1)) ∧ L = (if k = 0 then n else m) ∧ h = (if k = 0 then f else g) ∧ A + L + padN L = B ∧ A % 16 = 0 ∧
    (∀ j, j < L → layF f n g m (A + j) = h j) ∧ (∀ j, j < padN L → layF f n g m (A + L + j) = 0) := by
  have : k = 0 ∨ k = 1 := by omega
  rcases this with rfl | rfl
  · exact ⟨0, n + padN n, n, f, rfl, rfl, rfl, rfl, by omega, rfl, fun j hj => lay0 f n g m j hj, fun j hj => by rw [Nat.zero_add]; exact lay1 f n g m j hj⟩
  · exact ⟨n + padN n, n + padN n + (m + padN m), m, g, rfl, rfl, rfl, rfl, by omega, by unfold padN; omega, fun j hj => lay2 f n g m j hj, fun j hj => lay3 f n g m j hj⟩
theorem len_small (n j : Nat) (hn : n ≤ 250) (hj : 0 < j) : n / 2 ^ (8 * j) = 0 := Nat.div_eq_of_lt (Nat.lt_of_lt_of_le (by omega : n < 2 ^ 8) (Nat.pow_le_pow_right (by decide) (by omega)))
theorem lens_small (n m : Nat) (hn : n ≤ 250) (hm : m ≤ 250) : nums .u8 (lenF n m) 16 = [.int .u8 n, .int .u8 0, .int .u8 0, .int .u8 0, .int .u8 0, .int .u8 0, .int .u8 0, .int .u8 0, .int .u8 m, .int .u8 0, .int .u8 0, .int .u8 0, .int .u8 0, .int .u8 0, .int .u8 0, .int .u8 0] := by
  rw [nums_congr (g := fun j => if j = 0 then (n : Int) else if j = 8 then (m : Int) else 0) .u8 (fun j hj => ?_)]
  · rfl
  · unfold lenF
    by_cases h0 : j = 0
    · subst h0; simp; omega
    · by_cases h8 : j = 8
      · subst h8; simp; omega
      · rw [if_neg h0, if_neg h8]
        split
        · rw [len_small n j hn (by omega)]; rfl
        · rw [len_small m (j - 8) hm (by omega)]; rfl
/-- the tag of what is filled up, by the first block's key -/
theorem Tag_one8 (kf nf f : Nat → Int) (n : Nat) (g : Nat → Int) (m S : Nat) (q5 : Option Addr) (c5 N : Nat) (hN : N = layL n m) (hf : ∀ i, i < n → inB (f i)) (hg : ∀ i, i < m → inB (g i)) (hn : n ≤ 16384) (hm : m ≤ 16384) (h16 : N ≤ c5) (hc5 : c5 ≤ 9223372036854775807) (w : World)
    (hS : Own S [.slice q5 N c5] w) (h5 : Byt w q5 N (layF f n (encF kf nf g) m)) :
    Calls Tryd.prog 21 #[(.agg (nums .u8 (blkF kf 0 nf) 32).toArray), .slice (some ⟨S, 0, none⟩) 1 1] w fun e w' => e = .returned (.agg (nums .u8 (macF kf nf f n (encF kf nf g) m) 16).toArray) ∧ Below w.heap.size w w' := by
  subst hN
  have h := Tag_any (blkF kf 0 nf) (layF f n (encF kf nf g) m) (some ⟨S, 0, none⟩) 1 1 (T1 (layL n m)) (fun i _ => in_blkF kf 0 nf i) (fun i _ => in_layF hf (in_encF hg) i) rfl (fun k _ => by have := layT_le n m 5 hn hm; have e : layT n m 5 = layL n m := rfl; unfold T1; split <;> omega) (Nat.le_refl _) (by decide) w (parts_one hS ⟨q5, c5, rfl, h16, hc5, h5⟩)
  exact h
attribute [local go_sem] nums_length st16b st64
attribute [local go_sem ↓ high] sliced_head sliced_one

set_option maxHeartbeats 8000000 in
theorem Parts_law (kf nf f g : Nat → Int) (p q : Option Addr) (n1 n2 c dc n m : Nat) (e1 : min (n1 : Int) 250 = (n : Int)) (e2 : min (n2 : Int) 250 = (m : Int)) (hk : ∀ i, i < 32 → inB (kf i)) (hn : ∀ i, i < 12 → inB (nf i)) (hf : ∀ i, i < n → inB (f i)) (hg : ∀ i, i < m → inB (g i)) (hc1 : n1 ≤ c) (hd1 : n2 ≤ dc) (hc : c ≤ 9223372036854775807) (hd : dc ≤ 9223372036854775807) (w : World) (hG : Has 0 0 GL w) (hp : Byt w p n f) (hq : Byt w q m g) :
    Calls Tryd.prog 8 #[(.agg (seedC2 kf nf).toArray), .slice p n1 c, .slice q n2 dc] w fun e w' => e = .returned (.bool true) ∧ Below w.heap.size w w' := by
  have FW1 := Lib.hid (fun w => few8_any p n1 c n e1 (by omega) w)
  have FW2 := Lib.hid (fun w => few8_any q n2 dc m e2 (by omega) w)
  have N25 := Lib.hid (show n ≤ 250 by omega); have M25 := Lib.hid (show m ≤ 250 by omega)
  have NC := Lib.hid (show n ≤ c by omega); have MD := Lib.hid (show m ≤ dc by omega)
  have HC := Lib.hid hc; have HD_ := Lib.hid hd; have FK := Lib.hid hk; have FN := Lib.hid hn; have HF := Lib.hid hf; have HGF := Lib.hid hg
  have HG0 := Lib.hid hG; have HP0 := Lib.hid hp; have HQ0 := Lib.hid hq
  have SP := Lib.hid (fun w hG hp hq => Seal_any kf nf f g p q n m c dc hk hn hf hg (by omega) (by omega) (by omega) (by omega) hc hd w hG hp hq)
  have BP := Lib.hid (fun w hG => Block_any kf nf 0 hk hn (by unfold in32; decide) w hG)
  have TP := Lib.hid (fun S q5 c5 N hN h16 hc5 w hS h5 => Tag_one8 kf nf f n g m S q5 c5 N hN hf hg (by omega) (by omega) h16 hc5 w hS h5)
  have XP := Lib.hid (fun S w hG h hr => Xor_own kf nf S m (.slice q m dc) g (by omega) hk hn w hG h hr)
  have ST := Lib.hid (show ∀ j, j < 16 → sealF kf nf f n g m (m + j) = macF kf nf f n (encF kf nf g) m j from fun j hj => by unfold sealF; rw [if_neg (by omega), Nat.add_sub_cancel_left])
  have SC := Lib.hid (show ∀ j, j < m → sealF kf nf f n g m j = encF kf nf g j from fun j hj => by unfold sealF; rw [if_pos hj])
  have LS := Lib.hid (lens_small n m (by omega) (by omega))
  have PR := Lib.hid (fun k hk => part_round f (encF kf nf g) n m k hk)
  obtain ⟨T_, eT⟩ : ∃ x, macF kf nf f n (encF kf nf g) m = x := ⟨_, rfl⟩
  rw [eT] at TP ST
  obtain ⟨E_, eE⟩ : ∃ x, encF kf nf g = x := ⟨_, rfl⟩
  rw [eE] at TP XP SC PR
  obtain ⟨S_, eS⟩ : ∃ x, sealF kf nf f n g m = x := ⟨_, rfl⟩
  rw [eS] at SP ST SC
  obtain ⟨L_, eL⟩ : ∃ x, layF f n E_ m = x := ⟨_, rfl⟩
  have LC := Lib.hid (show nums .u8 L_ (layT n m 4) ++ nums .u8 (lenF n m) 16 = nums .u8 L_ (layT n m 4 + 16) from nums_append .u8 _ _ _ _ (fun j hj => by rw [← eL]; exact lay4 f n E_ m j))
  rw [eL] at TP PR
  obtain ⟨B_, eB⟩ : ∃ x, blkF kf 0 nf = x := ⟨_, rfl⟩
  rw [eB] at BP TP
  clear eT eE eS eL eB
  have mN : IntKind.i64.wrap ((m : Int) + 16) = ((m + 16 : Nat) : Int) := by rw [IntWalk.i64_in _ (by omega)]; omega
  have m0 : (0 : Int) ≤ (m : Int) := by omega
  have n0 : (0 : Int) ≤ (n : Int) := by omega
  have mM : (m : Int) ≤ (dc : Int) := by omega
  have n256 : (n : Int) % 256 = (n : Int) := by omega
  have m256 : (m : Int) % 256 = (m : Int) := by omega
  clear e1 e2 hk hn hf hg hc1 hd1 hc hd hG hp hq
  go_enter Tryd.func8, Tryd.ntmps8
  go_upto_region 1 with fail
  obtain ⟨W0, hW⟩ : ∃ W0, W0 = (w.alloc (.cells (seedC2 kf nf).toArray 25)) := ⟨_, rfl⟩
  have hB0 : Below w.heap.size w W0 := hW ▸ (Below.al (Below.refl _ _))
  have HDo : Hid (Own w.heap.size (seedC2 kf nf) W0) := Lib.hid (hW ▸ (show Own w.heap.size (seedC2 kf nf) (w.alloc (.cells (seedC2 kf nf).toArray 25)) from Own.newAt (by simp)))
  rw [← hW]
  clear hW
  obtain ⟨D, eD⟩ : ∃ X, X = w.heap.size := ⟨_, rfl⟩
  rw [← eD] at HDo ⊢
  have Dw : w.heap.size ≤ D := by omega
  clear eD
  have HD := Lib.hid HDo.out.has
  have HG := Lib.hid (HG0.out.later hB0); have HP := Lib.hid (HP0.out.later hB0); have HQ := Lib.hid (HQ0.out.later hB0)
  clear HG0 HP0 HQ0 HDo
  go_wp2_with (fail)
  go_at_call 9
  refine (FW1.out _).mono ?_
  rintro e w1 ⟨rfl, hb⟩
  have HDk := Lib.hid (HD.out.later hb)
  have HGk := Lib.hid (HG.out.later hb)
  have HPk := Lib.hid (HP.out.later hb)
  have HQk := Lib.hid (HQ.out.later hb)
  clear HD HG HP HQ
  have HD := HDk
  clear HDk
  have HG := HGk
  clear HGk
  have HP := HPk
  clear HPk
  have HQ := HQk
  clear HQk
  have hB1 := Below.go hB0 hb
  clear hB0 hb
  have hB0 := hB1
  clear hB1
  go_wp2_with (fail)
  go_at_call 9
  refine (FW2.out _).mono ?_
  rintro e w2 ⟨rfl, hb⟩
  have HDk := Lib.hid (HD.out.later hb)
  have HGk := Lib.hid (HG.out.later hb)
  have HPk := Lib.hid (HP.out.later hb)
  have HQk := Lib.hid (HQ.out.later hb)
  clear HD HG HP HQ
  have HD := HDk
  clear HDk
  have HG := HGk
  clear HGk
  have HP := HPk
  clear HPk
  have HQ := HQk
  clear HQk
  have hB1 := Below.go hB0 hb
  clear hB0 hb
  have hB0 := hB1
  clear hB1
  clear FW1 FW2
  go_upto_region 2 with fail
  refine wp_region_lit ?_
  refine wpList_val rfl (.pointer (some ⟨D, 0, none⟩)) (by kernel_rfl) ?_
  refine wpList_load_mid rfl 22 _ rfl D 0 rfl (nums .u8 kf 32) _ (seed2_key HD.out).cell Tryd.underlying22 rfl (by kernel_rfl) ?_
  refine wpList_val rfl (.pointer (some ⟨D, 32, none⟩)) (by kernel_rfl) ?_
  refine wpList_load_mid rfl 23 _ rfl D 32 rfl (nums .u8 nf 12) _ (seed2_non HD.out).cell Tryd.underlying23 rfl (by kernel_rfl) ?_
  go_wp2_with (fail)
  go_at_call 15
  refine (SP.out _ HG.out HP.out HQ.out).mono ?_
  rintro e w4 ⟨v4, rfl, hrow, hb⟩
  obtain ⟨X, c4, rfl, _, _⟩ := row_blk hrow (by omega)
  have HX := Lib.hid (row_has' hrow).1
  have C4 := Lib.hid (row_cap_ hrow)
  have c4m : (m : Int) ≤ (c4 : Int) := by have := C4.out.1; omega
  clear hrow
  have HDk := Lib.hid (HD.out.later hb)
  have HGk := Lib.hid (HG.out.later hb)
  have HPk := Lib.hid (HP.out.later hb)
  have HQk := Lib.hid (HQ.out.later hb)
  clear HD HG HP HQ
  have HD := HDk
  clear HDk
  have HG := HGk
  clear HGk
  have HP := HPk
  clear HPk
  have HQ := HQk
  clear HQk
  have hB1 := Below.go hB0 hb
  clear hB0 hb
  have hB0 := hB1
  clear hB1
  go_upto_region 7 with fail
  go_wp2_with (fail)
  obtain ⟨V, hW⟩ : ∃ W, W = (w4.alloc (.cells #[.slice p n c, .slice (some ⟨X, 0, none⟩) m c4] 26)) := ⟨_, rfl⟩
  have HL : Hid (Own w4.heap.size [.slice p n c, .slice (some ⟨X, 0, none⟩) m c4] V) := Lib.hid (hW ▸ Own.newAt rfl)
  have hb : Below w4.heap.size w4 V := hW ▸ Below.al (Below.refl _ _)
  rw [← hW]
  clear hW
  have HDk := Lib.hid (HD.out.later hb)
  have HGk := Lib.hid (HG.out.later hb)
  have HPk := Lib.hid (HP.out.later hb)
  have HQk := Lib.hid (HQ.out.later hb)
  have HXk := Lib.hid (HX.out.later hb)
  clear HD HG HP HQ HX
  have HD := HDk
  clear HDk
  have HG := HGk
  clear HGk
  have HP := HPk
  clear HPk
  have HQ := HQk
  clear HQk
  have HX := HXk
  clear HXk
  have hB1 := Below.go hB0 hb
  clear hB0 hb
  have hB0 := hB1
  clear hB1
  obtain ⟨P_, eP⟩ : ∃ x, x = w4.heap.size := ⟨_, rfl⟩
  rw [← eP] at HL ⊢
  clear eP
  obtain ⟨i0, hi, hz0, hz1, hz2⟩ := infoB_parts
  have HBV := Lib.hid hB0
  clear hB0 SP
  go_loopw [10, 47] (fun v iv wr => ∃ (k : Nat) (p3 : Option Addr) (c3 : Nat), k ≤ 2 ∧ v = .slice p3 (layT n m (2 * k)) c3 ∧ iv = .int .i64 k ∧ Hid (wr.ownsRow V.heap.size 5 1 (.slice p3 (layT n m (2 * k)) c3) (layT n m (2 * k)) (nums .u8 L_ (layT n m (2 * k)))) ∧ Hid (Below V.heap.size V wr)) (fun _ iv _ => (2 - (intOf iv).toNat))
  case atStart => exact ⟨0, none, 0, Nat.zero_le _, rfl, rfl, Lib.hid (World.ownsRow_nil _ _ _ _), Lib.hid (Below.refl _ _)⟩
  case round =>
    obtain ⟨k, p3, c3, hk, rfl, rfl, ROW, HB⟩ := hrel
    by_cases hlt : k < 2
    · obtain ⟨A, B, L, h, eA, eB, eL, eh, eAB, hA16, hc1, hc2⟩ := PR.out k hlt
      obtain ⟨q1, c1, hcell, hby, hLc, hcm⟩ : ∃ q1 c1, wr.cell? ⟨P_, k, none⟩ = some (.slice q1 L c1) ∧ Hid (Byt wr q1 L h) ∧ L ≤ c1 ∧ c1 ≤ 9223372036854775807 := by
        have hs := HL.out.later HB.out
        have k01 : k = 0 ∨ k = 1 := by omega
        rcases k01 with rfl | rfl
        · have eL2 : L = n := eL; have eh2 : h = f := eh
          rw [eL2, eh2]
          exact ⟨p, c, hs.at 0 _ rfl, Lib.hid (HP.out.later HB.out), NC.out, HC.out⟩
        · have eL2 : L = m := eL; have eh2 : h = E_ := eh
          rw [eL2, eh2]
          refine ⟨some ⟨X, 0, none⟩, c4, hs.at 1 _ rfl, Lib.hid (.inr ⟨X, 0, rfl, ?_⟩), by have := C4.out.1; omega, C4.out.2⟩
          show Has X 0 (nums .u8 E_ m) wr
          rw [← nums_congr .u8 SC.out]
          exact has_take (HX.out.later HB.out) (by omega)
      have hki : (k : Int) < 2 := by omega
      have k0 : (0 : Int) ≤ (k : Int) := by omega
      have wk : IntKind.i64.wrap ((k : Int) + 1) = (k : Int) + 1 := IntWalk.i64_in _ (by omega)
      have Pl : P_ < wr.heap.size := (HL.out.later HB.out).lt
      have hL250 : L ≤ 250 := by subst eL; have := N25.out; have := M25.out; split <;> omega
      have hA600 : A ≤ 600 := by
        subst eA
        have := padN_lt n; have := N25.out; have := M25.out
        have k01 : k = 0 ∨ k = 1 := by omega
        rcases k01 with rfl | rfl
        · show 0 ≤ 600; omega
        · show n + padN n ≤ 600; omega
      rw [← eA] at ROW ⊢
      have XS0 : Hid (nums .u8 L_ A ++ nums .u8 h L = nums .u8 L_ (A + L)) := Lib.hid (nums_append .u8 L_ h A L (fun j hj => hc1 j hj))
      have EB := Lib.hid eB
      have H0 := Lib.hid hc2
      have AB := Lib.hid eAB
      have H16 := Lib.hid hA16
      have H6 := Lib.hid hA600
      have H25 := Lib.hid hL250
      have L63 := Lib.hid (show A + L ≤ 140737488355328 by omega)
      have HBS := Lib.hid HB.out.size
      clear eA eB eL eh eAB hA16 hc1 hc2 hL250 hA600
      go_wp2_with (at_builtin; refine wpList_append_b rfl _ _ rfl V.heap.size _ A (nums .u8 L_ A) rfl ROW.out q1 L c1 h rfl hby.out L63.out HBS.out ?_; intro v' w6 hrow hgr; obtain ⟨p', c', rfl, _⟩ := row_form hrow; rw [XS0.out] at hrow; have HB6 := Lib.hid (HB.out.grown hgr HBS.out fun q hq => row_ge ROW.out q hq); have ROW6 := Lib.hid hrow; clear hrow hgr)
      clear ROW HB hcell Pl hby HBS
      go_loopw [10] (fun v wq => ∃ (i : Nat) (p3 : Option Addr) (c3 : Nat), i ≤ padN L ∧ v = .slice p3 (A + L + i) c3 ∧ Hid (wq.ownsRow V.heap.size 5 1 (.slice p3 (A + L + i) c3) (A + L + i) (nums .u8 L_ (A + L + i))) ∧ Hid (Below V.heap.size V wq)) (fun v _ => (A + L + 16 - slLen v))
      case atStart => exact ⟨0, p', c', Nat.zero_le _, rfl, ROW6, HB6⟩
      case round =>
        clear ROW6 HB6
        obtain ⟨i, p5, c5, hi5, rfl, ROW, HB⟩ := hrel
        have PK := Lib.hid hi5
        obtain ⟨t, et⟩ : ∃ t, A + L + i = t := ⟨_, rfl⟩
        have ET := Lib.hid et
        have hp15 : padN L < 16 := padN_lt L
        have t5 : t ≤ 1000 := by have := H6.out; have := H25.out; omega
        have tm : (t : Int).tmod 16 = ((t % 16 : Nat) : Int) := by rw [Int.tmod_eq_emod_of_nonneg (by omega)]; omega
        have hst : t % 16 = 0 ↔ i = padN L := by have := H16.out; unfold padN at hi5 ⊢; omega
        rw [et] at ROW ⊢
        obtain ⟨r, er⟩ : ∃ r : Nat, t % 16 = r := ⟨_, rfl⟩
        rw [er] at tm hst
        have wr_ : IntKind.i64.wrap (r : Int) = (r : Int) := IntWalk.i64_in _ (by omega)
        by_cases hr : r = 0
        · subst hr
          have ek := hst.1 rfl
          subst ek
          have g1 : decide ((0 : Int) < ((0 : Nat) : Int)) = false := rfl
          have eT : t = layT n m (2 * (k + 1)) := by rw [← ET.out, AB.out, EB.out]
          rw [eT] at ROW tm ⊢
          clear hst er et t5 hi5 eT
          obtain ⟨tt, ett⟩ : ∃ x, layT n m (2 * (k + 1)) = x := ⟨_, rfl⟩
          rw [ett] at ROW tm ⊢
          have ETT := Lib.hid ett
          clear ett
          go_wp2_with (fail)
          go_roundw
          case rel => (first | exact ⟨k + 1, _, _, by omega, by rw [ETT.out], by go_num, Lib.hid (by rw [ETT.out]; exact ROW.out), HB⟩ | ((repeat apply Exists.intro); exact ⟨⟨k + 1, _, _, by omega, by rw [ETT.out], by go_num, Lib.hid (by rw [ETT.out]; exact ROW.out), HB⟩, rfl⟩))
          case measure => simp [intOf]; omega
        · have g1 : decide ((0 : Int) < (r : Int)) = true := by simp; omega
          have g2 : decide (0 < r) = true := by simp; omega
          have K1 := Lib.hid (show i + 1 ≤ padN L by have : ¬ i = padN L := fun h => hr (hst.2 h); omega)
          have XS : Hid (nums .u8 L_ t ++ [.int .u8 0] = nums .u8 L_ (t + 1)) := Lib.hid (nums_append .u8 L_ (fun _ => 0) t 1 (fun j hj => by
            obtain rfl : j = 0 := by omega
            rw [Nat.add_zero, ← et]
            exact H0.out i (by have := K1.out; omega)))
          have N63 := Lib.hid (show t + 1 ≤ maxLen by unfold maxLen; omega)
          have NBY := Lib.hid (show (t + 1) * 1 ≤ 140737488355328 by omega)
          have HS2 : Hid (V.heap.size ≤ (wr.alloc (.cells #[.int .u8 0] 5)).heap.size) := Lib.hid (Nat.le_trans HB.out.size (by simp))
          have TN := Lib.hid (show t < A + L + 16 by omega)
          clear hst er et t5 hr hi5
          go_wp2_with (at_builtin; refine wpList_append_own _ rfl _ _ 26 rfl V.heap.size 5 i0 (.int .u8 0) 1 1 Tryd.underlying26 hi hz0 hz1 hz2 rfl (by decide) _ (t) _ rfl (row_later ROW.out (Below.al (Below.refl _ _))) ⟨wr.heap.size, 0, none⟩ 1 1 [.int .u8 0] rfl rfl (Own.newAt (by rfl)).news (by intro v hv; cases hv with | head => rfl | tail _ h => nomatch h) N63.out NBY.out HS2.out ?_; intro v' w6 hrow hgr _; obtain ⟨p', c', rfl, _⟩ := row_form hrow; rw [XS.out] at hrow; have o4 := Lib.hid ((Below.al HB.out).grown hgr (Below.al HB.out).size fun q hq => row_ge ROW.out q hq); have o6 := Lib.hid hrow; clear hrow hgr)
          go_roundw
          case rel => (first | exact ⟨i + 1, _, _, K1.out, by rw [← Nat.add_assoc, ET.out], Lib.hid (by rw [← Nat.add_assoc, ET.out]; exact o6.out), o4⟩ | ((repeat apply Exists.intro); exact ⟨⟨i + 1, _, _, K1.out, by rw [← Nat.add_assoc, ET.out], Lib.hid (by rw [← Nat.add_assoc, ET.out]; exact o6.out), o4⟩, rfl⟩))
          case measure => have := TN.out; simp [slLen]; omega
    · obtain rfl : k = 2 := by omega
      obtain ⟨P4, e4⟩ : ∃ x, layT n m (2 * 2) = x := ⟨_, rfl⟩
      have E4 : Hid (layT n m 4 = P4) := Lib.hid e4
      have EL4 : Hid (P4 + 16 = layL n m) := Lib.hid (by rw [← e4]; rfl)
      have P5 := Lib.hid (show P4 ≤ 1000 by have := padN_lt n; have := padN_lt m; have := N25.out; have := M25.out; have h : layT n m 4 = n + padN n + (m + padN m) := rfl; have := E4.out; omega)
      rw [e4] at ROW ⊢
      rw [E4.out, LS.out] at LC
      have N63 := Lib.hid (show P4 + 16 ≤ maxLen by have := P5.out; unfold maxLen; omega)
      have NBY := Lib.hid (show (P4 + 16) * 1 ≤ 140737488355328 by have := P5.out; omega)
      have HS2 := Lib.hid (show V.heap.size ≤ (wr.alloc (.cells #[.int .u8 n, .int .u8 0, .int .u8 0, .int .u8 0, .int .u8 0, .int .u8 0, .int .u8 0, .int .u8 0, .int .u8 m, .int .u8 0, .int .u8 0, .int .u8 0, .int .u8 0, .int .u8 0, .int .u8 0, .int .u8 0] 5)).heap.size from Nat.le_trans HB.out.size (by simp))
      clear e4 PR
      go_upto_region 15 with (at_builtin; refine wpList_append_own _ rfl _ _ 26 rfl V.heap.size 5 i0 (.int .u8 0) 1 1 Tryd.underlying26 hi hz0 hz1 hz2 rfl (by decide) _ P4 _ rfl (row_later ROW.out (Below.al (Below.refl _ _))) ⟨wr.heap.size, 0, none⟩ 16 16 [.int .u8 n, .int .u8 0, .int .u8 0, .int .u8 0, .int .u8 0, .int .u8 0, .int .u8 0, .int .u8 0, .int .u8 m, .int .u8 0, .int .u8 0, .int .u8 0, .int .u8 0, .int .u8 0, .int .u8 0, .int .u8 0] rfl rfl (Own.newAt (by rfl)).news (by intro v hv; simp only [List.mem_cons, List.not_mem_nil, or_false] at hv; rcases hv with rfl | rfl | rfl | rfl | rfl | rfl | rfl | rfl | rfl | rfl | rfl | rfl | rfl | rfl | rfl | rfl <;> rfl) N63.out NBY.out HS2.out ?_; intro v' w6 hrow hgr _; obtain ⟨p6, c6, rfl, _⟩ := row_form hrow; rw [LC.out] at hrow; have HB6 := Lib.hid ((HB.out.alloc HB.out.size _).grown hgr HS2.out fun q hq => row_ge ROW.out q hq); have HA := Lib.hid (byt_row hrow).2; have C6 := Lib.hid (row_cap_ hrow); clear hrow hgr)
      have hb := HB6.out
      have hB0 := HBV.out
      clear HB6 HBV HB ROW
      have HDk := Lib.hid (HD.out.later hb)
      have HGk := Lib.hid (HG.out.later hb)
      have HPk := Lib.hid (HP.out.later hb)
      have HQk := Lib.hid (HQ.out.later hb)
      have HXk := Lib.hid (HX.out.later hb)
      clear HD HG HP HQ HX
      have HD := HDk
      clear HDk
      have HG := HGk
      clear HGk
      have HP := HPk
      clear HPk
      have HQ := HQk
      clear HQk
      have HX := HXk
      clear HXk
      have hB1 := Below.go hB0 hb
      clear hB0 hb
      have hB0 := hB1
      clear hB1
      refine wp_region_lit ?_
      refine wpList_val rfl (.pointer (some ⟨D, 0, none⟩)) (by kernel_rfl) ?_
      refine wpList_load_mid rfl 22 _ rfl D 0 rfl (nums .u8 kf 32) _ (seed2_key HD.out).cell Tryd.underlying22 rfl (by kernel_rfl) ?_
      refine wpList_val rfl (.pointer (some ⟨D, 32, none⟩)) (by kernel_rfl) ?_
      refine wpList_load_mid rfl 23 _ rfl D 32 rfl (nums .u8 nf 12) _ (seed2_non HD.out).cell Tryd.underlying23 rfl (by kernel_rfl) ?_
      go_wp2_with (fail)
      go_at_call 20
      refine (BP.out _ HG.out).mono ?_
      rintro e w7 ⟨rfl, hb⟩
      have HDk := Lib.hid (HD.out.later hb)
      have HGk := Lib.hid (HG.out.later hb)
      have HPk := Lib.hid (HP.out.later hb)
      have HQk := Lib.hid (HQ.out.later hb)
      have HXk := Lib.hid (HX.out.later hb)
      have HAk := Lib.hid (HA.out.later hb)
      clear HD HG HP HQ HX HA
      have HD := HDk
      clear HDk
      have HG := HGk
      clear HGk
      have HP := HPk
      clear HPk
      have HQ := HQk
      clear HQk
      have HX := HXk
      clear HXk
      have HA := HAk
      clear HAk
      have hB1 := Below.go hB0 hb
      clear hB0 hb
      have hB0 := hB1
      clear hB1
      go_upto_region 16 with fail
      obtain ⟨W8, hW⟩ : ∃ W, W = (w7.alloc (.cells (nums .u8 B_ 64).toArray 40)) := ⟨_, rfl⟩
      have HB8 : Hid (Own w7.heap.size (nums .u8 B_ 64) W8) := Lib.hid (hW ▸ (show Own w7.heap.size (nums .u8 B_ 64) (w7.alloc (.cells (nums .u8 B_ 64).toArray 40)) from Own.newAt (by simp)))
      have hb : Below w7.heap.size w7 W8 := hW ▸ Below.al (Below.refl _ _)
      rw [← hW]
      clear hW
      have HDk := Lib.hid (HD.out.later hb)
      have HGk := Lib.hid (HG.out.later hb)
      have HPk := Lib.hid (HP.out.later hb)
      have HQk := Lib.hid (HQ.out.later hb)
      have HXk := Lib.hid (HX.out.later hb)
      have HAk := Lib.hid (HA.out.later hb)
      clear HD HG HP HQ HX HA
      have HD := HDk
      clear HDk
      have HG := HGk
      clear HGk
      have HP := HPk
      clear HPk
      have HQ := HQk
      clear HQk
      have HX := HXk
      clear HXk
      have HA := HAk
      clear HAk
      have hB1 := Below.go hB0 hb
      clear hB0 hb
      have hB0 := hB1
      clear hB1
      obtain ⟨Q_, eQ⟩ : ∃ x, x = w7.heap.size := ⟨_, rfl⟩
      rw [← eQ] at HB8 ⊢
      clear eQ
      refine wp_region_lit ?_
      refine wpList_val rfl (.slice (some ⟨Q_, 0, none⟩) 32 64) (by kernel_rfl) ?_
      refine wpList_val rfl (.pointer (some ⟨Q_, 0, none⟩)) (by kernel_rfl) ?_
      refine wpList_load_mid rfl 22 _ rfl Q_ 0 rfl (nums .u8 B_ 32) _ (has_take HB8.out.has (by decide)).cell Tryd.underlying22 rfl (by kernel_rfl) ?_
      go_wp2_with (fail)
      obtain ⟨W9, hW⟩ : ∃ W, W = (W8.alloc (.cells #[.slice p6 (P4 + 16) c6] 26)) := ⟨_, rfl⟩
      have HS9 : Hid (Own W8.heap.size [.slice p6 (P4 + 16) c6] W9) := Lib.hid (hW ▸ Own.newAt rfl)
      have hb : Below W8.heap.size W8 W9 := hW ▸ Below.al (Below.refl _ _)
      rw [← hW]
      clear hW HB8
      have HDk := Lib.hid (HD.out.later hb)
      have HGk := Lib.hid (HG.out.later hb)
      have HPk := Lib.hid (HP.out.later hb)
      have HQk := Lib.hid (HQ.out.later hb)
      have HXk := Lib.hid (HX.out.later hb)
      have HAk := Lib.hid (HA.out.later hb)
      clear HD HG HP HQ HX HA
      have HD := HDk
      clear HDk
      have HG := HGk
      clear HGk
      have HP := HPk
      clear HPk
      have HQ := HQk
      clear HQk
      have HX := HXk
      clear HXk
      have HA := HAk
      clear HAk
      have hB1 := Below.go hB0 hb
      clear hB0 hb
      have hB0 := hB1
      clear hB1
      obtain ⟨R_, eR⟩ : ∃ x, x = W8.heap.size := ⟨_, rfl⟩
      rw [← eR] at HS9 ⊢
      clear eR
      go_at_call 21
      refine (TP.out R_ p6 c6 (P4 + 16) EL4.out C6.out.1 C6.out.2 _ HS9.out HA.out).mono ?_
      rintro e w10 ⟨rfl, hb⟩
      clear HS9 HA
      have HDk := Lib.hid (HD.out.later hb)
      have HGk := Lib.hid (HG.out.later hb)
      have HPk := Lib.hid (HP.out.later hb)
      have HQk := Lib.hid (HQ.out.later hb)
      have HXk := Lib.hid (HX.out.later hb)
      clear HD HG HP HQ HX
      have HD := HDk
      clear HDk
      have HG := HGk
      clear HGk
      have HP := HPk
      clear HPk
      have HQ := HQk
      clear HQk
      have HX := HXk
      clear HXk
      have hB1 := Below.go hB0 hb
      clear hB0 hb
      have hB0 := hB1
      clear hB1
      go_upto_region 17 with fail
      obtain ⟨W11, hW⟩ : ∃ W, W = (w10.alloc (.cells (nums .u8 T_ 16).toArray 29)) := ⟨_, rfl⟩
      have HZ : Hid (Own w10.heap.size (nums .u8 T_ 16) W11) := Lib.hid (hW ▸ (show Own w10.heap.size (nums .u8 T_ 16) (w10.alloc (.cells (nums .u8 T_ 16).toArray 29)) from Own.newAt (by simp)))
      have hb : Below w10.heap.size w10 W11 := hW ▸ Below.al (Below.refl _ _)
      rw [← hW]
      clear hW
      have HDk := Lib.hid (HD.out.later hb)
      have HGk := Lib.hid (HG.out.later hb)
      have HPk := Lib.hid (HP.out.later hb)
      have HQk := Lib.hid (HQ.out.later hb)
      have HXk := Lib.hid (HX.out.later hb)
      clear HD HG HP HQ HX
      have HD := HDk
      clear HDk
      have HG := HGk
      clear HGk
      have HP := HPk
      clear HPk
      have HQ := HQk
      clear HQk
      have HX := HXk
      clear HXk
      have hB1 := Below.go hB0 hb
      clear hB0 hb
      have hB0 := hB1
      clear hB1
      obtain ⟨Z, eZ⟩ : ∃ x, x = w10.heap.size := ⟨_, rfl⟩
      rw [← eZ] at HZ ⊢
      clear eZ
      have HXs := Lib.hid (has_take (f := S_) (n := m + 16) (m := m) HX.out (by omega))
      have HXt := Lib.hid (has_drop (f := S_) (n := m + 16) (i := m) (m := 16) HX.out (Nat.le_refl _))
      have c6m : (m : Int) ≤ ((m + 16 : Nat) : Int) := by omega
      have c6n : (m : Int) ≤ (m : Int) + 16 := by omega
      have sl := slq_some X 0 m c4 (by have := C4.out.1; omega)
      have n8_ : ¬ (c4 = m) := by have := C4.out.1; omega
      have mmN : m + 16 - m = 16 := by omega
      have XR : Hid (∀ S (w : World), Has 0 0 GL w → Own S [.slice q m dc] w → RowR w (.slice q m dc) m g → Calls Tryd.prog 22 #[(.agg (nums .u8 kf 32).toArray), .int .u32 1, (.agg (nums .u8 nf 12).toArray), .slice (some ⟨S, 0, none⟩) 1 1] w fun e w' => ∃ v, e = .returned v ∧ RowR w' v m E_ ∧ Below w.heap.size w w') := Lib.hid fun S w hG h hr => (XP.out S w hG h hr).mono fun _ _ ⟨v, h1, h2, h3⟩ => ⟨v, h1, RowR.of h2, h3⟩
      clear XP
      refine wp_region_fun 21 (by kernel_rfl) (by kernel_rfl) rfl (fun s b => ⟨#[Value.agg (seedC2 kf nf).toArray, Value.slice p n c, Value.slice q m dc, Value.pointer (some { block := D, off := 0 }), undef, undef, s 6, Value.slice (some { block := X, off := 0 }) (m + 16) c4, Value.int IntKind.i64 0, Value.slice (some { block := X, off := 0 }) m c4, Value.slice p6 (P4 + 16) c6, undef, u12, Value.pointer (some { block := Q_, off := 0 }), Value.pointer (some { block := Z, off := 0 }), Value.slice p n1 c, Value.slice p n c, Value.slice q n2 dc, Value.slice q m dc, Value.tuple #[Value.slice (some { block := X, off := 0 }) (m + 16) c4, Value.int IntKind.i64 0], Value.pointer (some { block := D, off := 0 }), Value.agg (nums IntKind.u8 kf 32).toArray, Value.pointer (some { block := D, off := 32 }), Value.agg (nums IntKind.u8 nf 12).toArray, Value.slice p n c, Value.slice q m dc, Value.tuple #[Value.slice (some { block := X, off := 0 }) (m + 16) c4, Value.int IntKind.i64 0], Value.slice (some { block := X, off := 0 }) (m + 16) c4, Value.int IntKind.i64 0, Value.int IntKind.i64 0, Value.bool false, Value.bool false, Value.slice (some { block := X, off := 0 }) (m + 16) c4, Value.int IntKind.i64 ((m : Int) + 16), Value.slice q m dc, Value.int IntKind.i64 (m : Int), Value.int IntKind.i64 ((m : Int) + 16), Value.bool false, Value.bool false, Value.slice (some { block := X, off := 0 }) (m + 16) c4, Value.slice q m dc, Value.int IntKind.i64 (m : Int), Value.slice (some { block := X, off := 0 }) m c4, Value.slice p n c, Value.slice (some { block := X, off := 0 }) m c4, Value.slice (some { block := P_, off := 0 }) 2 2, Value.int IntKind.i64 2, Value.int IntKind.i64 2, Value.bool false, u49, u50, u51, u52, u53, u54, u55, u56, u57, u58, u59, u60, u61, Value.slice p3 P4 c3, Value.slice p n c, Value.int IntKind.i64 (n : Int), Value.int IntKind.u8 (n : Int), Value.slice q m dc, Value.int IntKind.i64 (m : Int), Value.int IntKind.u8 (m : Int), Value.slice (some { block := wr.heap.size, off := 0 }) 16 16, Value.slice p6 (P4 + 16) c6, Value.pointer (some { block := D, off := 0 }), Value.agg (nums IntKind.u8 kf 32).toArray, Value.pointer (some { block := D, off := 32 }), Value.agg (nums IntKind.u8 nf 12).toArray, Value.agg (nums IntKind.u8 B_ 64).toArray, Value.slice (some { block := Q_, off := 0 }) 32 64, Value.pointer (some { block := Q_, off := 0 }), Value.agg (nums IntKind.u8 B_ 32).toArray, Value.slice p6 (P4 + 16) c6, Value.slice (some { block := R_, off := 0 }) 1 1, Value.agg (nums IntKind.u8 T_ 16).toArray, s 82, s 83, s 84, s 85, s 86, s 87, s 88, s 89, s 90, s 91, s 92, s 93, s 94, s 95, s 96, s 97, s 98, s 99, s 100, s 101], []⟩) (fun d s b w => (Below W11.heap.size W11 w) ∧ (d 0 = true → s 82 = .slice (some ⟨X, 0, none⟩) (m + 16) c4) ∧ (d 1 = true → s 83 = .slice q m dc) ∧ (d 2 = true → s 84 = .int .i64 m) ∧ (d 3 = true → s 85 = .slice (some ⟨X, m, none⟩) 16 (c4 - m)) ∧ (d 4 = true → s 86 = .slice (some ⟨Z, 0, none⟩) 16 16) ∧ (d 5 = true → s 87 = .bool true) ∧ (d 6 = true → s 88 = .bool true) ∧ (d 7 = true → s 89 = .slice (some ⟨X, 0, none⟩) m c4) ∧ (d 8 = true → s 90 = .pointer (some ⟨D, 0, none⟩)) ∧ (d 9 = true → s 91 = .agg (nums .u8 kf 32).toArray) ∧ (d 10 = true → s 92 = .pointer (some ⟨D, 32, none⟩)) ∧ (d 11 = true → s 93 = .agg (nums .u8 nf 12).toArray) ∧ (d 12 = true → s 94 = .slice q m dc) ∧ (d 13 = true → s 95 = .slice (some ⟨(b 13), 0, none⟩) 1 1 ∧ W11.heap.size ≤ b 13) ∧ (d 13 = true → d 14 = false → Own (b 13) [.slice q m dc] w) ∧ (d 14 = true → RowR w (s 96) m E_) ∧ (d 15 = true → s 97 = .bool true) ∧ (d 16 = true → s 98 = .bool true) ∧ (d 17 = true → s 99 = .bool true) ∧ (d 18 = true → s 100 = .bool true) ∧ (d 19 = true → s 101 = .bool true) ∧ (d 20 = true → s 6 = .bool true)) rfl ?h0y1 (?sty1 : StepsF _ _ _ _ 21 _ _ [0, 1, 2, 3, 4, 5, 6, 7, 8, 9, 10, 11, 12, 13, 14, 15, 16, 17, 18, 19, 20]) ?dny1
      case h0y1 => exact ⟨Below.drew (Below.refl _ _), (fun h => nomatch h), (fun h => nomatch h), (fun h => nomatch h), (fun h => nomatch h), (fun h => nomatch h), (fun h => nomatch h), (fun h => nomatch h), (fun h => nomatch h), (fun h => nomatch h), (fun h => nomatch h), (fun h => nomatch h), (fun h => nomatch h), (fun h => nomatch h), (fun h => nomatch h), (fun h => nomatch h), (fun h => nomatch h), (fun h => nomatch h), (fun h => nomatch h), (fun h => nomatch h), (fun h => nomatch h), (fun h => nomatch h), (fun h => nomatch h)⟩
      case sty1 =>
        refine StepsF.cons (o := _) rfl (ws := []) (by kernel_rfl) (by decide) (fun d s b w hF hd hw K_ hK => ?_) ?_
        · have hB : Below W11.heap.size W11 w := (p0_ hF.out)
          dsimp only
          go_simp
          exact hK.out (ups s 82 (.slice (some ⟨X, 0, none⟩) (m + 16) c4)) b _ ⟨hB, (fun _ => rfl), (p2_ hF.out), (p3_ hF.out), (p4_ hF.out), (p5_ hF.out), (p6_ hF.out), (p7_ hF.out), (p8_ hF.out), (p9_ hF.out), (p10_ hF.out), (p11_ hF.out), (p12_ hF.out), (p13_ hF.out), (p14_ hF.out), (p15_ hF.out), (p16_ hF.out), (p17_ hF.out), (p18_ hF.out), (p19_ hF.out), (p20_ hF.out), (p21_ hF.out), (q22_ hF.out)⟩
        refine StepsF.cons (o := _) rfl (ws := []) (by kernel_rfl) (by decide) (fun d s b w hF hd hw K_ hK => ?_) ?_
        · have hB : Below W11.heap.size W11 w := (p0_ hF.out)
          dsimp only
          go_simp
          exact hK.out (ups s 83 (.slice q m dc)) b _ ⟨hB, (p1_ hF.out), (fun _ => rfl), (p3_ hF.out), (p4_ hF.out), (p5_ hF.out), (p6_ hF.out), (p7_ hF.out), (p8_ hF.out), (p9_ hF.out), (p10_ hF.out), (p11_ hF.out), (p12_ hF.out), (p13_ hF.out), (p14_ hF.out), (p15_ hF.out), (p16_ hF.out), (p17_ hF.out), (p18_ hF.out), (p19_ hF.out), (p20_ hF.out), (p21_ hF.out), (q22_ hF.out)⟩
        refine StepsF.cons (o := _) rfl (ws := [1]) (by kernel_rfl) (by decide) (fun d s b w hF hd hw K_ hK => ?_) ?_
        · have hB : Below W11.heap.size W11 w := (p0_ hF.out)
          have e1 : s 83 = .slice q m dc := (p2_ hF.out) (hw 1 (by decide))
          dsimp only
          go_simp
          exact hK.out (ups (ups s 83 (.slice q m dc)) 84 (.int .i64 m)) b _ ⟨hB, (p1_ hF.out), (fun _ => rfl), (fun _ => rfl), (p4_ hF.out), (p5_ hF.out), (p6_ hF.out), (p7_ hF.out), (p8_ hF.out), (p9_ hF.out), (p10_ hF.out), (p11_ hF.out), (p12_ hF.out), (p13_ hF.out), (p14_ hF.out), (p15_ hF.out), (p16_ hF.out), (p17_ hF.out), (p18_ hF.out), (p19_ hF.out), (p20_ hF.out), (p21_ hF.out), (q22_ hF.out)⟩
        refine StepsF.cons (o := _) rfl (ws := [0, 2]) (by kernel_rfl) (by decide) (fun d s b w hF hd hw K_ hK => ?_) ?_
        · have hB : Below W11.heap.size W11 w := (p0_ hF.out)
          have e0 : s 82 = .slice (some ⟨X, 0, none⟩) (m + 16) c4 := (p1_ hF.out) (hw 0 (by decide))
          have e2 : s 84 = .int .i64 m := (p3_ hF.out) (hw 2 (by decide))
          dsimp only
          go_simp
          exact hK.out (ups (ups (ups s 82 (.slice (some ⟨X, 0, none⟩) (m + 16) c4)) 84 (.int .i64 m)) 85 (.slice (some ⟨X, m, none⟩) 16 (c4 - m))) b _ ⟨hB, (fun _ => rfl), (p2_ hF.out), (fun _ => rfl), (fun _ => rfl), (p5_ hF.out), (p6_ hF.out), (p7_ hF.out), (p8_ hF.out), (p9_ hF.out), (p10_ hF.out), (p11_ hF.out), (p12_ hF.out), (p13_ hF.out), (p14_ hF.out), (p15_ hF.out), (p16_ hF.out), (p17_ hF.out), (p18_ hF.out), (p19_ hF.out), (p20_ hF.out), (p21_ hF.out), (q22_ hF.out)⟩
        refine StepsF.cons (o := _) rfl (ws := []) (by kernel_rfl) (by decide) (fun d s b w hF hd hw K_ hK => ?_) ?_
        · have hB : Below W11.heap.size W11 w := (p0_ hF.out)
          dsimp only
          go_simp
          exact hK.out (ups s 86 (.slice (some ⟨Z, 0, none⟩) 16 16)) b _ ⟨hB, (p1_ hF.out), (p2_ hF.out), (p3_ hF.out), (p4_ hF.out), (fun _ => rfl), (p6_ hF.out), (p7_ hF.out), (p8_ hF.out), (p9_ hF.out), (p10_ hF.out), (p11_ hF.out), (p12_ hF.out), (p13_ hF.out), (p14_ hF.out), (p15_ hF.out), (p16_ hF.out), (p17_ hF.out), (p18_ hF.out), (p19_ hF.out), (p20_ hF.out), (p21_ hF.out), (q22_ hF.out)⟩
        refine StepsF.cons (o := _) rfl (ws := [3, 4]) (by kernel_rfl) (by decide) (fun d s b w hF hd hw K_ hK => ?_) ?_
        · have hB : Below W11.heap.size W11 w := (p0_ hF.out)
          have e3 : s 85 = .slice (some ⟨X, m, none⟩) 16 (c4 - m) := (p4_ hF.out) (hw 3 (by decide))
          have e4 : s 86 = .slice (some ⟨Z, 0, none⟩) 16 16 := (p5_ hF.out) (hw 4 (by decide))
          dsimp only
          go_simp
          go_at_call 17
          refine (Equal_any (some ⟨X, m, none⟩) (some ⟨Z, 0, none⟩) 16 (c4 - m) 16 T_ _ (.inr ⟨X, m, rfl, by rw [← nums_congr .u8 ST.out]; rw [Nat.zero_add] at HXt; exact HXt.out.later hB⟩) (.inr ⟨Z, 0, rfl, HZ.out.has.later hB⟩)).mono ?_
          rintro e w1 ⟨rfl, hb⟩
          exact hK.out (ups (ups (ups s 85 (.slice (some ⟨X, m, none⟩) 16 (c4 - m))) 86 (.slice (some ⟨Z, 0, none⟩) 16 16)) 87 (.bool true)) b _ ⟨(Below.go hB hb), (p1_ hF.out), (p2_ hF.out), (p3_ hF.out), (fun _ => rfl), (fun _ => rfl), (fun _ => rfl), (p7_ hF.out), (p8_ hF.out), (p9_ hF.out), (p10_ hF.out), (p11_ hF.out), (p12_ hF.out), (p13_ hF.out), (p14_ hF.out), (fun h0 h1 => ((p15_ hF.out) h0 h1).later hb), (fun h0 => ((p16_ hF.out) h0).later hb (Nat.le_refl _)), (p17_ hF.out), (p18_ hF.out), (p19_ hF.out), (p20_ hF.out), (p21_ hF.out), (q22_ hF.out)⟩
        refine StepsF.cons (o := _) rfl (ws := [5, 5]) (by kernel_rfl) (by decide) (fun d s b w hF hd hw K_ hK => ?_) ?_
        · have hB : Below W11.heap.size W11 w := (p0_ hF.out)
          have e5 : s 87 = .bool true := (p6_ hF.out) (hw 5 (by decide))
          dsimp only
          go_simp
          exact hK.out (ups (ups s 87 (.bool true)) 88 (.bool true)) b _ ⟨hB, (p1_ hF.out), (p2_ hF.out), (p3_ hF.out), (p4_ hF.out), (p5_ hF.out), (fun _ => rfl), (fun _ => rfl), (p8_ hF.out), (p9_ hF.out), (p10_ hF.out), (p11_ hF.out), (p12_ hF.out), (p13_ hF.out), (p14_ hF.out), (p15_ hF.out), (p16_ hF.out), (p17_ hF.out), (p18_ hF.out), (p19_ hF.out), (p20_ hF.out), (p21_ hF.out), (q22_ hF.out)⟩
        refine StepsF.cons (o := _) rfl (ws := [6]) (by kernel_rfl) (by decide) (fun d s b w hF hd hw K_ hK => ?_) ?_
        · have hB : Below W11.heap.size W11 w := (p0_ hF.out)
          have e6 : s 88 = .bool true := (p7_ hF.out) (hw 6 (by decide))
          dsimp only
          go_simp
          exact hK.out (ups (ups s 88 (.bool true)) 89 (.slice (some ⟨X, 0, none⟩) m c4)) b _ ⟨hB, (p1_ hF.out), (p2_ hF.out), (p3_ hF.out), (p4_ hF.out), (p5_ hF.out), (p6_ hF.out), (fun _ => rfl), (fun _ => rfl), (p9_ hF.out), (p10_ hF.out), (p11_ hF.out), (p12_ hF.out), (p13_ hF.out), (p14_ hF.out), (p15_ hF.out), (p16_ hF.out), (p17_ hF.out), (p18_ hF.out), (p19_ hF.out), (p20_ hF.out), (p21_ hF.out), (q22_ hF.out)⟩
        refine StepsF.cons (o := _) rfl (ws := [6]) (by kernel_rfl) (by decide) (fun d s b w hF hd hw K_ hK => ?_) ?_
        · have hB : Below W11.heap.size W11 w := (p0_ hF.out)
          have e6 : s 88 = .bool true := (p7_ hF.out) (hw 6 (by decide))
          dsimp only
          go_simp
          exact hK.out (ups (ups s 88 (.bool true)) 90 (.pointer (some ⟨D, 0, none⟩))) b _ ⟨hB, (p1_ hF.out), (p2_ hF.out), (p3_ hF.out), (p4_ hF.out), (p5_ hF.out), (p6_ hF.out), (fun _ => rfl), (p8_ hF.out), (fun _ => rfl), (p10_ hF.out), (p11_ hF.out), (p12_ hF.out), (p13_ hF.out), (p14_ hF.out), (p15_ hF.out), (p16_ hF.out), (p17_ hF.out), (p18_ hF.out), (p19_ hF.out), (p20_ hF.out), (p21_ hF.out), (q22_ hF.out)⟩
        refine StepsF.cons (o := _) rfl (ws := [8, 6]) (by kernel_rfl) (by decide) (fun d s b w hF hd hw K_ hK => ?_) ?_
        · have hB : Below W11.heap.size W11 w := (p0_ hF.out)
          have e6 : s 88 = .bool true := (p7_ hF.out) (hw 6 (by decide))
          have e8 : s 90 = .pointer (some ⟨D, 0, none⟩) := (p9_ hF.out) (hw 8 (by decide))
          refine step_load (by simp [Region.wanted, yielded, e6]) 22 _ rfl D 0 e8 (nums .u8 kf 32) _ (seed2_key (HD.out.later hB)).cell Tryd.underlying22 rfl (by kernel_rfl) ?_
          exact hK.out (ups s 91 (.agg (nums .u8 kf 32).toArray)) b _ ⟨hB, (p1_ hF.out), (p2_ hF.out), (p3_ hF.out), (p4_ hF.out), (p5_ hF.out), (p6_ hF.out), (p7_ hF.out), (p8_ hF.out), (p9_ hF.out), (fun _ => rfl), (p11_ hF.out), (p12_ hF.out), (p13_ hF.out), (p14_ hF.out), (p15_ hF.out), (p16_ hF.out), (p17_ hF.out), (p18_ hF.out), (p19_ hF.out), (p20_ hF.out), (p21_ hF.out), (q22_ hF.out)⟩
        refine StepsF.cons (o := _) rfl (ws := [6]) (by kernel_rfl) (by decide) (fun d s b w hF hd hw K_ hK => ?_) ?_
        · have hB : Below W11.heap.size W11 w := (p0_ hF.out)
          have e6 : s 88 = .bool true := (p7_ hF.out) (hw 6 (by decide))
          dsimp only
          go_simp
          exact hK.out (ups (ups s 88 (.bool true)) 92 (.pointer (some ⟨D, 32, none⟩))) b _ ⟨hB, (p1_ hF.out), (p2_ hF.out), (p3_ hF.out), (p4_ hF.out), (p5_ hF.out), (p6_ hF.out), (fun _ => rfl), (p8_ hF.out), (p9_ hF.out), (p10_ hF.out), (fun _ => rfl), (p12_ hF.out), (p13_ hF.out), (p14_ hF.out), (p15_ hF.out), (p16_ hF.out), (p17_ hF.out), (p18_ hF.out), (p19_ hF.out), (p20_ hF.out), (p21_ hF.out), (q22_ hF.out)⟩
        refine StepsF.cons (o := _) rfl (ws := [10, 6]) (by kernel_rfl) (by decide) (fun d s b w hF hd hw K_ hK => ?_) ?_
        · have hB : Below W11.heap.size W11 w := (p0_ hF.out)
          have e6 : s 88 = .bool true := (p7_ hF.out) (hw 6 (by decide))
          have e10 : s 92 = .pointer (some ⟨D, 32, none⟩) := (p11_ hF.out) (hw 10 (by decide))
          refine step_load (by simp [Region.wanted, yielded, e6]) 23 _ rfl D 32 e10 (nums .u8 nf 12) _ (seed2_non (HD.out.later hB)).cell Tryd.underlying23 rfl (by kernel_rfl) ?_
          exact hK.out (ups s 93 (.agg (nums .u8 nf 12).toArray)) b _ ⟨hB, (p1_ hF.out), (p2_ hF.out), (p3_ hF.out), (p4_ hF.out), (p5_ hF.out), (p6_ hF.out), (p7_ hF.out), (p8_ hF.out), (p9_ hF.out), (p10_ hF.out), (p11_ hF.out), (fun _ => rfl), (p13_ hF.out), (p14_ hF.out), (p15_ hF.out), (p16_ hF.out), (p17_ hF.out), (p18_ hF.out), (p19_ hF.out), (p20_ hF.out), (p21_ hF.out), (q22_ hF.out)⟩
        refine StepsF.cons (o := _) rfl (ws := [6]) (by kernel_rfl) (by decide) (fun d s b w hF hd hw K_ hK => ?_) ?_
        · have hB : Below W11.heap.size W11 w := (p0_ hF.out)
          have e6 : s 88 = .bool true := (p7_ hF.out) (hw 6 (by decide))
          dsimp only
          go_simp
          exact hK.out (ups (ups s 88 (.bool true)) 94 (.slice q m dc)) b _ ⟨hB, (p1_ hF.out), (p2_ hF.out), (p3_ hF.out), (p4_ hF.out), (p5_ hF.out), (p6_ hF.out), (fun _ => rfl), (p8_ hF.out), (p9_ hF.out), (p10_ hF.out), (p11_ hF.out), (p12_ hF.out), (fun _ => rfl), (p14_ hF.out), (p15_ hF.out), (p16_ hF.out), (p17_ hF.out), (p18_ hF.out), (p19_ hF.out), (p20_ hF.out), (p21_ hF.out), (q22_ hF.out)⟩
        refine StepsF.cons (o := _) rfl (ws := [12, 6]) (by kernel_rfl) (by decide) (fun d s b w hF hd hw K_ hK => ?_) ?_
        · have hB : Below W11.heap.size W11 w := (p0_ hF.out)
          have e6 : s 88 = .bool true := (p7_ hF.out) (hw 6 (by decide))
          have e12 : s 94 = .slice q m dc := (p13_ hF.out) (hw 12 (by decide))
          dsimp only
          go_simp
          exact hK.out (ups (ups (ups s 88 (.bool true)) 94 (.slice q m dc)) 95 (.slice (some ⟨w.heap.size, 0, none⟩) 1 1)) (ups b 13 w.heap.size) _ ⟨(hB.alloc hB.size _), (p1_ hF.out), (p2_ hF.out), (p3_ hF.out), (p4_ hF.out), (p5_ hF.out), (p6_ hF.out), (fun _ => rfl), (p8_ hF.out), (p9_ hF.out), (p10_ hF.out), (p11_ hF.out), (p12_ hF.out), (fun _ => rfl), (fun _ => ⟨rfl, hB.size⟩), (fun _ _ => Own.newAt rfl), (fun h0 => ((p16_ hF.out) h0).later (Below.al (Below.refl _ _)) (Nat.le_refl _)), (p17_ hF.out), (p18_ hF.out), (p19_ hF.out), (p20_ hF.out), (p21_ hF.out), (q22_ hF.out)⟩
        refine StepsF.cons (o := _) rfl (ws := [9, 11, 13, 6, 6]) (by kernel_rfl) (by decide) (fun d s b w hF hd hw K_ hK => ?_) ?_
        · have hB : Below W11.heap.size W11 w := (p0_ hF.out)
          have e6 : s 88 = .bool true := (p7_ hF.out) (hw 6 (by decide))
          have e9 : s 91 = .agg (nums .u8 kf 32).toArray := (p10_ hF.out) (hw 9 (by decide))
          have e11 : s 93 = .agg (nums .u8 nf 12).toArray := (p12_ hF.out) (hw 11 (by decide))
          have e13 : s 95 = .slice (some ⟨(b 13), 0, none⟩) 1 1 := ((p14_ hF.out) (hw 13 (by decide))).1
          have le13 : W11.heap.size ≤ b 13 := ((p14_ hF.out) (hw 13 (by decide))).2
          dsimp only
          go_simp
          go_at_call 22
          refine (XR.out (b 13) _ (HG.out.later hB) (((p15_ hF.out) (hw 13 (by decide))) hd) ⟨q, dc, rfl, MD.out, HD_.out, HQ.out.later hB⟩).mono ?_
          rintro e w1 ⟨v, rfl, hv, hb⟩
          exact hK.out (ups (ups (ups (ups (ups s 88 (.bool true)) 91 (.agg (nums .u8 kf 32).toArray)) 93 (.agg (nums .u8 nf 12).toArray)) 95 (.slice (some ⟨(b 13), 0, none⟩) 1 1)) 96 (v)) b _ ⟨(Below.go hB hb), (p1_ hF.out), (p2_ hF.out), (p3_ hF.out), (p4_ hF.out), (p5_ hF.out), (p6_ hF.out), (fun _ => rfl), (p8_ hF.out), (p9_ hF.out), (fun _ => rfl), (p11_ hF.out), (fun _ => rfl), (p13_ hF.out), (fun _ => ⟨rfl, le13⟩), (fun _ h => nomatch h), (fun _ => hv), (p17_ hF.out), (p18_ hF.out), (p19_ hF.out), (p20_ hF.out), (p21_ hF.out), (q22_ hF.out)⟩
        refine StepsF.cons (o := _) rfl (ws := [7, 14, 14, 6]) (by kernel_rfl) (by decide) (fun d s b w hF hd hw K_ hK => ?_) ?_
        · have hB : Below W11.heap.size W11 w := (p0_ hF.out)
          have e6 : s 88 = .bool true := (p7_ hF.out) (hw 6 (by decide))
          have e7 : s 89 = .slice (some ⟨X, 0, none⟩) m c4 := (p8_ hF.out) (hw 7 (by decide))
          dsimp only
          obtain ⟨q1, c1, e14, z1, z2, z3⟩ := ((p16_ hF.out) (hw 14 (by decide)))
          go_simp
          go_at_call 17
          refine (Equal_any (some ⟨X, 0, none⟩) q1 m c4 c1 E_ _ (.inr ⟨X, 0, rfl, by rw [← nums_congr .u8 SC.out]; exact HXs.out.later hB⟩) z3).mono ?_
          rintro e w1 ⟨rfl, hb⟩
          exact hK.out (ups (ups (ups (ups s 88 (.bool true)) 89 (.slice (some ⟨X, 0, none⟩) m c4)) 96 ((.slice q1 m c1))) 97 (.bool true)) b _ ⟨(Below.go hB hb), (p1_ hF.out), (p2_ hF.out), (p3_ hF.out), (p4_ hF.out), (p5_ hF.out), (p6_ hF.out), (fun _ => rfl), (fun _ => rfl), (p9_ hF.out), (p10_ hF.out), (p11_ hF.out), (p12_ hF.out), (p13_ hF.out), (p14_ hF.out), (fun h0 h1 => ((p15_ hF.out) h0 h1).later hb), (fun _ => ⟨q1, c1, rfl, z1, z2, z3.later hb⟩), (fun _ => rfl), (p18_ hF.out), (p19_ hF.out), (p20_ hF.out), (p21_ hF.out), (q22_ hF.out)⟩
        refine StepsF.cons (o := _) rfl (ws := [6, 15]) (by kernel_rfl) (by decide) (fun d s b w hF hd hw K_ hK => ?_) ?_
        · have hB : Below W11.heap.size W11 w := (p0_ hF.out)
          have e6 : s 88 = .bool true := (p7_ hF.out) (hw 6 (by decide))
          have e15 : s 97 = .bool true := (p17_ hF.out) (hw 15 (by decide))
          dsimp only
          go_simp
          exact hK.out (ups (ups (ups s 88 (.bool true)) 97 (.bool true)) 98 (.bool true)) b _ ⟨hB, (p1_ hF.out), (p2_ hF.out), (p3_ hF.out), (p4_ hF.out), (p5_ hF.out), (p6_ hF.out), (fun _ => rfl), (p8_ hF.out), (p9_ hF.out), (p10_ hF.out), (p11_ hF.out), (p12_ hF.out), (p13_ hF.out), (p14_ hF.out), (p15_ hF.out), (p16_ hF.out), (fun _ => rfl), (fun _ => rfl), (p19_ hF.out), (p20_ hF.out), (p21_ hF.out), (q22_ hF.out)⟩
        refine StepsF.cons (o := _) rfl (ws := [16, 15]) (by kernel_rfl) (by decide) (fun d s b w hF hd hw K_ hK => ?_) ?_
        · have hB : Below W11.heap.size W11 w := (p0_ hF.out)
          have e15 : s 97 = .bool true := (p17_ hF.out) (hw 15 (by decide))
          have e16 : s 98 = .bool true := (p18_ hF.out) (hw 16 (by decide))
          dsimp only
          go_simp
          exact hK.out (ups (ups (ups s 97 (.bool true)) 98 (.bool true)) 99 (.bool true)) b _ ⟨hB, (p1_ hF.out), (p2_ hF.out), (p3_ hF.out), (p4_ hF.out), (p5_ hF.out), (p6_ hF.out), (p7_ hF.out), (p8_ hF.out), (p9_ hF.out), (p10_ hF.out), (p11_ hF.out), (p12_ hF.out), (p13_ hF.out), (p14_ hF.out), (p15_ hF.out), (p16_ hF.out), (fun _ => rfl), (fun _ => rfl), (fun _ => rfl), (p20_ hF.out), (p21_ hF.out), (q22_ hF.out)⟩
        refine StepsF.cons (o := _) rfl (ws := [17, 17]) (by kernel_rfl) (by decide) (fun d s b w hF hd hw K_ hK => ?_) ?_
        · have hB : Below W11.heap.size W11 w := (p0_ hF.out)
          have e17 : s 99 = .bool true := (p19_ hF.out) (hw 17 (by decide))
          dsimp only
          go_simp
          go_at_call 14
          refine (works8_any _ (HG.out.later hB)).mono ?_
          rintro e w1 ⟨rfl, hb⟩
          exact hK.out (ups (ups s 99 (.bool true)) 100 (.bool true)) b _ ⟨(Below.go hB hb), (p1_ hF.out), (p2_ hF.out), (p3_ hF.out), (p4_ hF.out), (p5_ hF.out), (p6_ hF.out), (p7_ hF.out), (p8_ hF.out), (p9_ hF.out), (p10_ hF.out), (p11_ hF.out), (p12_ hF.out), (p13_ hF.out), (p14_ hF.out), (fun h0 h1 => ((p15_ hF.out) h0 h1).later hb), (fun h0 => ((p16_ hF.out) h0).later hb (Nat.le_refl _)), (p17_ hF.out), (p18_ hF.out), (fun _ => rfl), (fun _ => rfl), (p21_ hF.out), (q22_ hF.out)⟩
        refine StepsF.cons (o := _) rfl (ws := [17, 18]) (by kernel_rfl) (by decide) (fun d s b w hF hd hw K_ hK => ?_) ?_
        · have hB : Below W11.heap.size W11 w := (p0_ hF.out)
          have e17 : s 99 = .bool true := (p19_ hF.out) (hw 17 (by decide))
          have e18 : s 100 = .bool true := (p20_ hF.out) (hw 18 (by decide))
          dsimp only
          go_simp
          exact hK.out (ups (ups (ups s 99 (.bool true)) 100 (.bool true)) 101 (.bool true)) b _ ⟨hB, (p1_ hF.out), (p2_ hF.out), (p3_ hF.out), (p4_ hF.out), (p5_ hF.out), (p6_ hF.out), (p7_ hF.out), (p8_ hF.out), (p9_ hF.out), (p10_ hF.out), (p11_ hF.out), (p12_ hF.out), (p13_ hF.out), (p14_ hF.out), (p15_ hF.out), (p16_ hF.out), (p17_ hF.out), (p18_ hF.out), (fun _ => rfl), (fun _ => rfl), (fun _ => rfl), (q22_ hF.out)⟩
        refine StepsF.cons (o := _) rfl (ws := [19, 18, 0, 1, 2, 3, 4, 5, 6, 7, 8, 9, 10, 11, 12, 13, 14, 15, 16, 17, 18, 19]) (by kernel_rfl) (by decide) (fun d s b w hF hd hw K_ hK => ?_) ?_
        · have hB : Below W11.heap.size W11 w := (p0_ hF.out)
          have e0 : s 82 = .slice (some ⟨X, 0, none⟩) (m + 16) c4 := (p1_ hF.out) (hw 0 (by decide))
          have e1 : s 83 = .slice q m dc := (p2_ hF.out) (hw 1 (by decide))
          have e2 : s 84 = .int .i64 m := (p3_ hF.out) (hw 2 (by decide))
          have e3 : s 85 = .slice (some ⟨X, m, none⟩) 16 (c4 - m) := (p4_ hF.out) (hw 3 (by decide))
          have e4 : s 86 = .slice (some ⟨Z, 0, none⟩) 16 16 := (p5_ hF.out) (hw 4 (by decide))
          have e5 : s 87 = .bool true := (p6_ hF.out) (hw 5 (by decide))
          have e6 : s 88 = .bool true := (p7_ hF.out) (hw 6 (by decide))
          have e7 : s 89 = .slice (some ⟨X, 0, none⟩) m c4 := (p8_ hF.out) (hw 7 (by decide))
          have e8 : s 90 = .pointer (some ⟨D, 0, none⟩) := (p9_ hF.out) (hw 8 (by decide))
          have e9 : s 91 = .agg (nums .u8 kf 32).toArray := (p10_ hF.out) (hw 9 (by decide))
          have e10 : s 92 = .pointer (some ⟨D, 32, none⟩) := (p11_ hF.out) (hw 10 (by decide))
          have e11 : s 93 = .agg (nums .u8 nf 12).toArray := (p12_ hF.out) (hw 11 (by decide))
          have e12 : s 94 = .slice q m dc := (p13_ hF.out) (hw 12 (by decide))
          have e13 : s 95 = .slice (some ⟨(b 13), 0, none⟩) 1 1 := ((p14_ hF.out) (hw 13 (by decide))).1
          have le13 : W11.heap.size ≤ b 13 := ((p14_ hF.out) (hw 13 (by decide))).2
          have e15 : s 97 = .bool true := (p17_ hF.out) (hw 15 (by decide))
          have e16 : s 98 = .bool true := (p18_ hF.out) (hw 16 (by decide))
          have e17 : s 99 = .bool true := (p19_ hF.out) (hw 17 (by decide))
          have e18 : s 100 = .bool true := (p20_ hF.out) (hw 18 (by decide))
          have e19 : s 101 = .bool true := (p21_ hF.out) (hw 19 (by decide))
          dsimp only
          go_simp
          exact hK.out (ups (ups (ups (ups (ups (ups (ups (ups (ups (ups (ups (ups (ups (ups (ups (ups (ups (ups (ups (ups s 82 (.slice (some ⟨X, 0, none⟩) (m + 16) c4)) 83 (.slice q m dc)) 84 (.int .i64 m)) 85 (.slice (some ⟨X, m, none⟩) 16 (c4 - m))) 86 (.slice (some ⟨Z, 0, none⟩) 16 16)) 87 (.bool true)) 88 (.bool true)) 89 (.slice (some ⟨X, 0, none⟩) m c4)) 90 (.pointer (some ⟨D, 0, none⟩))) 91 (.agg (nums .u8 kf 32).toArray)) 92 (.pointer (some ⟨D, 32, none⟩))) 93 (.agg (nums .u8 nf 12).toArray)) 94 (.slice q m dc)) 95 (.slice (some ⟨(b 13), 0, none⟩) 1 1)) 97 (.bool true)) 98 (.bool true)) 99 (.bool true)) 100 (.bool true)) 101 (.bool true)) 6 (.bool true)) b _ ⟨hB, (fun _ => rfl), (fun _ => rfl), (fun _ => rfl), (fun _ => rfl), (fun _ => rfl), (fun _ => rfl), (fun _ => rfl), (fun _ => rfl), (fun _ => rfl), (fun _ => rfl), (fun _ => rfl), (fun _ => rfl), (fun _ => rfl), (fun _ => ⟨rfl, le13⟩), (p15_ hF.out), (p16_ hF.out), (fun _ => rfl), (fun _ => rfl), (fun _ => rfl), (fun _ => rfl), (fun _ => rfl), (fun _ => rfl)⟩
        exact StepsF.nil
      intro d s b y1 hF hall
      replace hF := Lib.hid hF
      have hB : Below W11.heap.size W11 y1 := (p0_ hF.out)
      try dsimp only
      have e0 : s 82 = .slice (some ⟨X, 0, none⟩) (m + 16) c4 := (p1_ hF.out) (hall 0 (by decide))
      have e1 : s 83 = .slice q m dc := (p2_ hF.out) (hall 1 (by decide))
      have e2 : s 84 = .int .i64 m := (p3_ hF.out) (hall 2 (by decide))
      have e3 : s 85 = .slice (some ⟨X, m, none⟩) 16 (c4 - m) := (p4_ hF.out) (hall 3 (by decide))
      have e4 : s 86 = .slice (some ⟨Z, 0, none⟩) 16 16 := (p5_ hF.out) (hall 4 (by decide))
      have e5 : s 87 = .bool true := (p6_ hF.out) (hall 5 (by decide))
      have e6 : s 88 = .bool true := (p7_ hF.out) (hall 6 (by decide))
      have e7 : s 89 = .slice (some ⟨X, 0, none⟩) m c4 := (p8_ hF.out) (hall 7 (by decide))
      have e8 : s 90 = .pointer (some ⟨D, 0, none⟩) := (p9_ hF.out) (hall 8 (by decide))
      have e9 : s 91 = .agg (nums .u8 kf 32).toArray := (p10_ hF.out) (hall 9 (by decide))
      have e10 : s 92 = .pointer (some ⟨D, 32, none⟩) := (p11_ hF.out) (hall 10 (by decide))
      have e11 : s 93 = .agg (nums .u8 nf 12).toArray := (p12_ hF.out) (hall 11 (by decide))
      have e12 : s 94 = .slice q m dc := (p13_ hF.out) (hall 12 (by decide))
      have e13 : s 95 = .slice (some ⟨(b 13), 0, none⟩) 1 1 := ((p14_ hF.out) (hall 13 (by decide))).1
      have le13 : W11.heap.size ≤ b 13 := ((p14_ hF.out) (hall 13 (by decide))).2
      have f14 := (p16_ hF.out) (hall 14 (by decide))
      have e15 : s 97 = .bool true := (p17_ hF.out) (hall 15 (by decide))
      have e16 : s 98 = .bool true := (p18_ hF.out) (hall 16 (by decide))
      have e17 : s 99 = .bool true := (p19_ hF.out) (hall 17 (by decide))
      have e18 : s 100 = .bool true := (p20_ hF.out) (hall 18 (by decide))
      have e19 : s 101 = .bool true := (p21_ hF.out) (hall 19 (by decide))
      have e20 : s 6 = .bool true := (q22_ hF.out) (hall 20 (by decide))
      rw [e0, e1, e2, e3, e4, e5, e6, e7, e8, e9, e10, e11, e12, e13, e15, e16, e17, e18, e19, e20]
      clear hall hF e0 e1 e2 e3 e4 e5 e6 e7 e8 e9 e10 e11 e12 e13 e15 e16 e17 e18 e19 e20
      obtain ⟨Y_, hz⟩ : ∃ x, x = b 13 := ⟨_, rfl⟩
      rw [← hz] at le13 ⊢
      clear hz
      obtain ⟨q96, hz⟩ : ∃ x, x = s 96 := ⟨_, rfl⟩
      rw [← hz] at f14 ⊢
      clear hz
      clear d s b
      go_wp2_with (fail)
      go_ret
      exact ⟨rfl, Below.go hB0 hB⟩
end Go.Proofs.YtjkeaiihjbcfgaaDoor
