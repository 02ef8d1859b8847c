/- AeadJust: the walk. -/
import Derived.Test.YtjkeaiihjbcfgaaDoorYEO
import Derived.Lib.Hide
import Derived.Deep.Onto
import Derived.Laws.OwnMore
namespace Go.Proofs.YtjkeaiihjbcfgaaDoor
set_option linter.unusedVariables false
set_option maxRecDepth 2000
set_option linter.unusedSimpArgs false
open Go.RowKit
attribute [local go_sem] nums_length st16b
attribute [local go_sem ↓ high] sliced_head sliced_one

set_option maxHeartbeats 4000000 in
theorem Just_short (kf nf f g : Nat → Int) (p q : Option Addr) (n1 n2 c dc n m : Nat) (e1 : min (n1 : Int) 250 = (n : Int)) (e2 : min (n2 : Int) 250 = (m : Int)) (hk : ∀ i, i < 32 → inB (kf i)) (hn : ∀ i, i < 12 → inB (nf i)) (hf : ∀ i, i < n → inB (f i)) (hg : ∀ i, i < m → inB (g i)) (hc1 : n1 ≤ c) (hd1 : n2 ≤ dc) (hc : c ≤ 9223372036854775807) (hd : dc ≤ 9223372036854775807) (w : World) (hG : Has 0 0 GL w) (hp : Byt w p n f) (hq : Byt w q m g) (hm : m < 16) :
    Calls Tryd.prog 7 #[(.agg (seedC2 kf nf).toArray), .slice p n1 c, .slice q n2 dc] w fun e w' => e = .returned (.bool true) ∧ Below w.heap.size w w' := by
  have FW1 := Lib.hid (fun w => few8_any p n1 c n e1 (by omega) w)
  have FW2 := Lib.hid (fun w => few8_any q n2 dc m e2 (by omega) w)
  have N25 := Lib.hid (show n ≤ 250 by omega); have M25 := Lib.hid (show m ≤ 250 by omega)
  have NC := Lib.hid (show n ≤ c by omega); have MD := Lib.hid (show m ≤ dc by omega)
  have HC := Lib.hid hc; have HD_ := Lib.hid hd; have FK := Lib.hid hk; have FN := Lib.hid hn; have HF := Lib.hid hf; have HGF := Lib.hid hg
  have HG0 := Lib.hid hG; have HP0 := Lib.hid hp; have HQ0 := Lib.hid hq
  have HM := Lib.hid hm
  obtain ⟨x, ex⟩ : ∃ x : Int, (m : Int) - 16 = x := ⟨_, rfl⟩
  have x0 : x < 0 := by omega
  have xw : IntKind.i64.wrap x = x := IntWalk.i64_in _ (by omega)
  have xd : decide (x < 0) = true := by simp; omega
  clear e1 e2 hk hn hf hg hc1 hd1 hc hd hG hp hq
  clear hm
  go_enter Tryd.func7, Tryd.ntmps7
  go_upto_region 1 with fail
  obtain ⟨W0, hW⟩ : ∃ W0, W0 = (w.alloc (.cells (seedC2 kf nf).toArray 25)) := ⟨_, rfl⟩
  have hB0 : Below w.heap.size w W0 := hW ▸ (Below.al (Below.refl _ _))
  have HDo : Hid (Own w.heap.size (seedC2 kf nf) W0) := Lib.hid (hW ▸ (show Own w.heap.size (seedC2 kf nf) (w.alloc (.cells (seedC2 kf nf).toArray 25)) from Own.newAt (by simp)))
  rw [← hW]
  clear hW
  obtain ⟨D, eD⟩ : ∃ X, X = w.heap.size := ⟨_, rfl⟩
  rw [← eD] at HDo ⊢
  have Dw : w.heap.size ≤ D := by omega
  clear eD
  have HD := Lib.hid HDo.out.has
  have HG := Lib.hid (HG0.out.later hB0); have HP := Lib.hid (HP0.out.later hB0); have HQ := Lib.hid (HQ0.out.later hB0)
  clear HG0 HP0 HQ0 HDo
  go_wp2_with (fail)
  go_at_call 9
  refine (FW1.out _).mono ?_
  rintro e w1 ⟨rfl, hb⟩
  have HDk := Lib.hid (HD.out.later hb)
  have HGk := Lib.hid (HG.out.later hb)
  have HPk := Lib.hid (HP.out.later hb)
  have HQk := Lib.hid (HQ.out.later hb)
  clear HD HG HP HQ
  have HD := HDk
  clear HDk
  have HG := HGk
  clear HGk
  have HP := HPk
  clear HPk
  have HQ := HQk
  clear HQk
  have hB1 := Below.go hB0 hb
  clear hB0 hb
  have hB0 := hB1
  clear hB1
  go_wp2_with (fail)
  go_at_call 9
  refine (FW2.out _).mono ?_
  rintro e w2 ⟨rfl, hb⟩
  have HDk := Lib.hid (HD.out.later hb)
  have HGk := Lib.hid (HG.out.later hb)
  have HPk := Lib.hid (HP.out.later hb)
  have HQk := Lib.hid (HQ.out.later hb)
  clear HD HG HP HQ
  have HD := HDk
  clear HDk
  have HG := HGk
  clear HGk
  have HP := HPk
  clear HPk
  have HQ := HQk
  clear HQk
  have hB1 := Below.go hB0 hb
  clear hB0 hb
  have hB0 := hB1
  clear hB1
  clear FW1 FW2
  go_upto_region 2 with fail
  refine wp_region_lit ?_
  refine wpList_val rfl (.pointer (some ⟨D, 0, none⟩)) (by kernel_rfl) ?_
  refine wpList_load_mid rfl 22 _ rfl D 0 rfl (nums .u8 kf 32) _ (seed2_key HD.out).cell Tryd.underlying22 rfl (by kernel_rfl) ?_
  refine wpList_val rfl (.pointer (some ⟨D, 32, none⟩)) (by kernel_rfl) ?_
  refine wpList_load_mid rfl 23 _ rfl D 32 rfl (nums .u8 nf 12) _ (seed2_non HD.out).cell Tryd.underlying23 rfl (by kernel_rfl) ?_
  go_wp2_with (fail)
  go_at_call 18
  refine (Open_short kf nf p q n m c dc HM.out _).mono ?_
  rintro e w4 ⟨rfl, hb⟩
  have HDk := Lib.hid (HD.out.later hb)
  have HGk := Lib.hid (HG.out.later hb)
  have HPk := Lib.hid (HP.out.later hb)
  have HQk := Lib.hid (HQ.out.later hb)
  clear HD HG HP HQ
  have HD := HDk
  clear HDk
  have HG := HGk
  clear HGk
  have HP := HPk
  clear HPk
  have HQ := HQk
  clear HQk
  have hB1 := Below.go hB0 hb
  clear hB0 hb
  have hB0 := hB1
  clear hB1
  go_wp2_with (fail)
  go_at_call 14
  refine (works8_any _ HG.out).mono ?_
  rintro e w8 ⟨rfl, hb⟩
  have hB1 := Below.go hB0 hb
  clear hB0 hb
  have hB0 := hB1
  clear hB1
  go_wp2_with (fail)
  go_ret
  exact ⟨rfl, hB0⟩

set_option maxHeartbeats 4000000 in
theorem Just_true (kf nf f g : Nat → Int) (p q : Option Addr) (n1 n2 c dc n m : Nat) (e1 : min (n1 : Int) 250 = (n : Int)) (e2 : min (n2 : Int) 250 = (m : Int)) (hk : ∀ i, i < 32 → inB (kf i)) (hn : ∀ i, i < 12 → inB (nf i)) (hf : ∀ i, i < n → inB (f i)) (hg : ∀ i, i < m → inB (g i)) (hc1 : n1 ≤ c) (hd1 : n2 ≤ dc) (hc : c ≤ 9223372036854775807) (hd : dc ≤ 9223372036854775807) (w : World) (hG : Has 0 0 GL w) (hp : Byt w p n f) (hq : Byt w q m g) (k : Nat) (ek : m = k + 16) (ez : eqB (fun j => g (k + j)) (macF kf nf f n g k) 16 = true) :
    Calls Tryd.prog 7 #[(.agg (seedC2 kf nf).toArray), .slice p n1 c, .slice q n2 dc] w fun e w' => e = .returned (.bool true) ∧ Below w.heap.size w w' := by
  have FW1 := Lib.hid (fun w => few8_any p n1 c n e1 (by omega) w)
  have FW2 := Lib.hid (fun w => few8_any q n2 dc m e2 (by omega) w)
  have N25 := Lib.hid (show n ≤ 250 by omega); have M25 := Lib.hid (show m ≤ 250 by omega)
  have NC := Lib.hid (show n ≤ c by omega); have MD := Lib.hid (show m ≤ dc by omega)
  have HC := Lib.hid hc; have HD_ := Lib.hid hd; have FK := Lib.hid hk; have FN := Lib.hid hn; have HF := Lib.hid hf; have HGF := Lib.hid hg
  have HG0 := Lib.hid hG; have HP0 := Lib.hid hp; have HQ0 := Lib.hid hq
  obtain ⟨qb, qo, rfl, hqh⟩ := hq.resolve_left (by omega)
  have OP := Lib.hid (fun w hG hp hq => Open_core kf nf f g p qb qo n k m c dc ek true ez hk hn hf hg (by omega) (by omega) (by omega) (by omega) hc hd w hG hp hq)
  have MC := Lib.hid (fun w hG hp hq => Mac_any kf nf f g p (some ⟨qb, qo, none⟩) n k c dc hk hn hf (fun i hi => hg i (by omega)) (by omega) (by omega) (by omega) (by omega) hc hd w hG hp hq)
  have EQ := Lib.hid (fun X w h1 h2 => Equal2_any (some ⟨X, 0, none⟩) (some ⟨qb, qo + k, none⟩) 16 16 (dc - k) (macF kf nf f n g k) (fun j => g (k + j)) (fun i _ => in_macF _ _ _ _ _ _ _) (fun i hi => hg _ (by omega)) w h1 h2)
  have SP := Lib.hid (fun q4 c4 h4 h5 w hG hp hq => Seal_any kf nf f (encF kf nf g) p q4 n k c c4 hk hn hf (in_encF (fun i hi => hg i (by omega))) (by omega) (by omega) (by omega) h4 hc h5 w hG hp hq)
  have SE : Hid (∀ j, j < k + 16 → sealF kf nf f n (encF kf nf g) k j = g j) := Lib.hid fun j hj => by
    have hb : ∀ j, j < k → encF kf nf (encF kf nf g) j = g j := enc_back (fun i hi => hg i (by omega))
    unfold sealF
    split
    · exact hb j (by assumption)
    · rename_i h
      rw [macF_congr (g' := g) (fun _ _ => rfl) hb]
      have := of_decide_eq_true ez (j - k) (by omega)
      rw [← this]
      show g (k + (j - k)) = g j
      congr 1
      omega
  have HQ0 := Lib.hid hqh
  rw [eqB_comm, ez] at EQ
  obtain ⟨T_, eT⟩ : ∃ x, macF kf nf f n g k = x := ⟨_, rfl⟩
  rw [eT] at MC EQ
  have sl := slq_some qb qo k dc (by omega)
  have n1_ : (m : Int) - 16 = (k : Int) := by omega
  have n2_ : IntKind.i64.wrap (k : Int) = (k : Int) := IntWalk.i64_in _ (by omega)
  have n3_ : m - k = 16 := by omega
  have n4_ : (0 : Int) ≤ (k : Int) := by omega
  have n5_ : (k : Int) ≤ (m : Int) := by omega
  have n6_ : (k : Int) ≤ (dc : Int) := by omega
  have n7_ : (m : Int) ≤ (dc : Int) := by omega
  have n8_ : ¬ (dc = k) := by omega
  have n9_ : decide ((k : Int) < 0) = false := by simp
  have EK := Lib.hid ek
  clear ez hqh ek eT
  clear e1 e2 hk hn hf hg hc1 hd1 hc hd hG hp hq
  go_enter Tryd.func7, Tryd.ntmps7
  go_upto_region 1 with fail
  obtain ⟨W0, hW⟩ : ∃ W0, W0 = (w.alloc (.cells (seedC2 kf nf).toArray 25)) := ⟨_, rfl⟩
  have hB0 : Below w.heap.size w W0 := hW ▸ (Below.al (Below.refl _ _))
  have HDo : Hid (Own w.heap.size (seedC2 kf nf) W0) := Lib.hid (hW ▸ (show Own w.heap.size (seedC2 kf nf) (w.alloc (.cells (seedC2 kf nf).toArray 25)) from Own.newAt (by simp)))
  rw [← hW]
  clear hW
  obtain ⟨D, eD⟩ : ∃ X, X = w.heap.size := ⟨_, rfl⟩
  rw [← eD] at HDo ⊢
  have Dw : w.heap.size ≤ D := by omega
  clear eD
  have HD := Lib.hid HDo.out.has
  have HG := Lib.hid (HG0.out.later hB0); have HP := Lib.hid (HP0.out.later hB0); have HQ := Lib.hid (HQ0.out.later hB0)
  clear HG0 HP0 HQ0 HDo
  go_wp2_with (fail)
  go_at_call 9
  refine (FW1.out _).mono ?_
  rintro e w1 ⟨rfl, hb⟩
  have HDk := Lib.hid (HD.out.later hb)
  have HGk := Lib.hid (HG.out.later hb)
  have HPk := Lib.hid (HP.out.later hb)
  have HQk := Lib.hid (HQ.out.later hb)
  clear HD HG HP HQ
  have HD := HDk
  clear HDk
  have HG := HGk
  clear HGk
  have HP := HPk
  clear HPk
  have HQ := HQk
  clear HQk
  have hB1 := Below.go hB0 hb
  clear hB0 hb
  have hB0 := hB1
  clear hB1
  go_wp2_with (fail)
  go_at_call 9
  refine (FW2.out _).mono ?_
  rintro e w2 ⟨rfl, hb⟩
  have HDk := Lib.hid (HD.out.later hb)
  have HGk := Lib.hid (HG.out.later hb)
  have HPk := Lib.hid (HP.out.later hb)
  have HQk := Lib.hid (HQ.out.later hb)
  clear HD HG HP HQ
  have HD := HDk
  clear HDk
  have HG := HGk
  clear HGk
  have HP := HPk
  clear HPk
  have HQ := HQk
  clear HQk
  have hB1 := Below.go hB0 hb
  clear hB0 hb
  have hB0 := hB1
  clear hB1
  clear FW1 FW2
  go_upto_region 2 with fail
  refine wp_region_lit ?_
  refine wpList_val rfl (.pointer (some ⟨D, 0, none⟩)) (by kernel_rfl) ?_
  refine wpList_load_mid rfl 22 _ rfl D 0 rfl (nums .u8 kf 32) _ (seed2_key HD.out).cell Tryd.underlying22 rfl (by kernel_rfl) ?_
  refine wpList_val rfl (.pointer (some ⟨D, 32, none⟩)) (by kernel_rfl) ?_
  refine wpList_load_mid rfl 23 _ rfl D 32 rfl (nums .u8 nf 12) _ (seed2_non HD.out).cell Tryd.underlying23 rfl (by kernel_rfl) ?_
  go_wp2_with (fail)
  go_at_call 18
  refine (OP.out _ HG.out HP.out HQ.out).mono ?_
  rintro e w4 ⟨⟨v4, rfl, hrow⟩, hb⟩
  obtain ⟨q4, c4, rfl, h4⟩ := row_form hrow
  have BA := Lib.hid (byt_row hrow).2
  have C4 := Lib.hid (row_cap_ hrow)
  clear hrow h4
  have HDk := Lib.hid (HD.out.later hb)
  have HGk := Lib.hid (HG.out.later hb)
  have HPk := Lib.hid (HP.out.later hb)
  have HQk := Lib.hid (HQ.out.later hb)
  clear HD HG HP HQ
  have HD := HDk
  clear HDk
  have HG := HGk
  clear HGk
  have HP := HPk
  clear HPk
  have HQ := HQk
  clear HQk
  have hB1 := Below.go hB0 hb
  clear hB0 hb
  have hB0 := hB1
  clear hB1
  go_upto_region 6 with fail
  refine wp_region_fun 11 (by kernel_rfl) (by kernel_rfl) rfl (fun s b => ⟨#[.agg (seedC2 kf nf).toArray, .slice p n c, .slice (some ⟨qb, qo, none⟩) m dc, .pointer (some ⟨D, 0, none⟩), undef, undef, .bool false, .slice q4 k c4, .int .i64 0, .int .i64 k, s 10, undef, undef, .slice p n1 c, .slice p n c, .slice (some ⟨qb, qo, none⟩) n2 dc, .slice (some ⟨qb, qo, none⟩) m dc, .tuple #[.slice q4 k c4, .int .i64 0], .pointer (some ⟨D, 0, none⟩), .agg (nums .u8 kf 32).toArray, .pointer (some ⟨D, 32, none⟩), .agg (nums .u8 nf 12).toArray, .slice p n c, .slice (some ⟨qb, qo, none⟩) m dc, .tuple #[.slice q4 k c4, .int .i64 0], .slice q4 k c4, .int .i64 0, .slice (some ⟨qb, qo, none⟩) m dc, .int .i64 m, .int .i64 k, .int .i64 k, .bool false, undef, undef, undef, undef, undef, undef, undef, undef, undef, undef, s 42, s 43, s 44, s 45, s 46, s 47, s 48, s 49, s 50, undef, undef, undef, undef, undef, undef, undef, undef, undef, undef, undef, undef, undef, undef, undef, undef, undef, undef, undef, undef, undef, undef, undef, undef, undef, undef, undef, undef, undef, undef, undef, undef, undef, undef, undef, undef, undef, undef, undef, undef], []⟩) (fun d s b w => (Below w4.heap.size w4 w) ∧ (d 0 = true → s 42 = .pointer (some ⟨D, 0, none⟩)) ∧ (d 1 = true → s 43 = .agg (nums .u8 kf 32).toArray) ∧ (d 2 = true → s 44 = .pointer (some ⟨D, 32, none⟩)) ∧ (d 3 = true → s 45 = .agg (nums .u8 nf 12).toArray) ∧ (d 4 = true → s 46 = .slice p n c) ∧ (d 5 = true → s 47 = .slice (some ⟨qb, qo, none⟩) m dc) ∧ (d 6 = true → s 48 = .int .i64 k) ∧ (d 7 = true → s 49 = .slice (some ⟨qb, qo, none⟩) k dc) ∧ (d 8 = true → s 50 = .agg (nums .u8 T_ 16).toArray) ∧ (d 9 = true → s 10 = .pointer (some ⟨(b 9), 0, none⟩) ∧ w4.heap.size ≤ b 9) ∧ (d 9 = true → d 10 = false → Own (b 9) (nums .u8 (fun _ => 0) 16) w) ∧ (d 10 = true → Own (b 9) (nums .u8 T_ 16) w) ∧ (d 10 = true → d 9 = true)) rfl ?h0y1 (?sty1 : StepsF _ _ _ _ 11 _ _ [0, 1, 2, 3, 4, 5, 6, 7, 8, 9, 10]) ?dny1
  case h0y1 => exact ⟨Below.drew (Below.refl _ _), (fun h => nomatch h), (fun h => nomatch h), (fun h => nomatch h), (fun h => nomatch h), (fun h => nomatch h), (fun h => nomatch h), (fun h => nomatch h), (fun h => nomatch h), (fun h => nomatch h), (fun h => nomatch h), (fun h => nomatch h), (fun h => nomatch h), (fun h => nomatch h)⟩
  case sty1 =>
    refine StepsF.cons (o := _) rfl (ws := []) (by kernel_rfl) (by decide) (fun d s b w hF hd hw K_ hK => ?_) ?_
    · have hB : Below w4.heap.size w4 w := (p0_ hF.out)
      dsimp only
      go_simp
      exact hK.out (ups s 42 (.pointer (some ⟨D, 0, none⟩))) b _ ⟨hB, (fun _ => rfl), (p2_ hF.out), (p3_ hF.out), (p4_ hF.out), (p5_ hF.out), (p6_ hF.out), (p7_ hF.out), (p8_ hF.out), (p9_ hF.out), (p10_ hF.out), (p11_ hF.out), (p12_ hF.out), (q13_ hF.out)⟩
    refine StepsF.cons (o := _) rfl (ws := [0]) (by kernel_rfl) (by decide) (fun d s b w hF hd hw K_ hK => ?_) ?_
    · have hB : Below w4.heap.size w4 w := (p0_ hF.out)
      have e0 : s 42 = .pointer (some ⟨D, 0, none⟩) := (p1_ hF.out) (hw 0 (by decide))
      refine step_load (by simp [Region.wanted]) 22 _ rfl D 0 e0 (nums .u8 kf 32) _ (seed2_key (HD.out.later hB)).cell Tryd.underlying22 rfl (by kernel_rfl) ?_
      exact hK.out (ups s 43 (.agg (nums .u8 kf 32).toArray)) b _ ⟨hB, (p1_ hF.out), (fun _ => rfl), (p3_ hF.out), (p4_ hF.out), (p5_ hF.out), (p6_ hF.out), (p7_ hF.out), (p8_ hF.out), (p9_ hF.out), (p10_ hF.out), (p11_ hF.out), (p12_ hF.out), (q13_ hF.out)⟩
    refine StepsF.cons (o := _) rfl (ws := []) (by kernel_rfl) (by decide) (fun d s b w hF hd hw K_ hK => ?_) ?_
    · have hB : Below w4.heap.size w4 w := (p0_ hF.out)
      dsimp only
      go_simp
      exact hK.out (ups s 44 (.pointer (some ⟨D, 32, none⟩))) b _ ⟨hB, (p1_ hF.out), (p2_ hF.out), (fun _ => rfl), (p4_ hF.out), (p5_ hF.out), (p6_ hF.out), (p7_ hF.out), (p8_ hF.out), (p9_ hF.out), (p10_ hF.out), (p11_ hF.out), (p12_ hF.out), (q13_ hF.out)⟩
    refine StepsF.cons (o := _) rfl (ws := [2]) (by kernel_rfl) (by decide) (fun d s b w hF hd hw K_ hK => ?_) ?_
    · have hB : Below w4.heap.size w4 w := (p0_ hF.out)
      have e2 : s 44 = .pointer (some ⟨D, 32, none⟩) := (p3_ hF.out) (hw 2 (by decide))
      refine step_load (by simp [Region.wanted]) 23 _ rfl D 32 e2 (nums .u8 nf 12) _ (seed2_non (HD.out.later hB)).cell Tryd.underlying23 rfl (by kernel_rfl) ?_
      exact hK.out (ups s 45 (.agg (nums .u8 nf 12).toArray)) b _ ⟨hB, (p1_ hF.out), (p2_ hF.out), (p3_ hF.out), (fun _ => rfl), (p5_ hF.out), (p6_ hF.out), (p7_ hF.out), (p8_ hF.out), (p9_ hF.out), (p10_ hF.out), (p11_ hF.out), (p12_ hF.out), (q13_ hF.out)⟩
    refine StepsF.cons (o := _) rfl (ws := []) (by kernel_rfl) (by decide) (fun d s b w hF hd hw K_ hK => ?_) ?_
    · have hB : Below w4.heap.size w4 w := (p0_ hF.out)
      dsimp only
      go_simp
      exact hK.out (ups s 46 (.slice p n c)) b _ ⟨hB, (p1_ hF.out), (p2_ hF.out), (p3_ hF.out), (p4_ hF.out), (fun _ => rfl), (p6_ hF.out), (p7_ hF.out), (p8_ hF.out), (p9_ hF.out), (p10_ hF.out), (p11_ hF.out), (p12_ hF.out), (q13_ hF.out)⟩
    refine StepsF.cons (o := _) rfl (ws := []) (by kernel_rfl) (by decide) (fun d s b w hF hd hw K_ hK => ?_) ?_
    · have hB : Below w4.heap.size w4 w := (p0_ hF.out)
      dsimp only
      go_simp
      exact hK.out (ups s 47 (.slice (some ⟨qb, qo, none⟩) m dc)) b _ ⟨hB, (p1_ hF.out), (p2_ hF.out), (p3_ hF.out), (p4_ hF.out), (p5_ hF.out), (fun _ => rfl), (p7_ hF.out), (p8_ hF.out), (p9_ hF.out), (p10_ hF.out), (p11_ hF.out), (p12_ hF.out), (q13_ hF.out)⟩
    refine StepsF.cons (o := _) rfl (ws := []) (by kernel_rfl) (by decide) (fun d s b w hF hd hw K_ hK => ?_) ?_
    · have hB : Below w4.heap.size w4 w := (p0_ hF.out)
      dsimp only
      go_simp
      exact hK.out (ups s 48 (.int .i64 k)) b _ ⟨hB, (p1_ hF.out), (p2_ hF.out), (p3_ hF.out), (p4_ hF.out), (p5_ hF.out), (p6_ hF.out), (fun _ => rfl), (p8_ hF.out), (p9_ hF.out), (p10_ hF.out), (p11_ hF.out), (p12_ hF.out), (q13_ hF.out)⟩
    refine StepsF.cons (o := _) rfl (ws := [5, 6]) (by kernel_rfl) (by decide) (fun d s b w hF hd hw K_ hK => ?_) ?_
    · have hB : Below w4.heap.size w4 w := (p0_ hF.out)
      have e5 : s 47 = .slice (some ⟨qb, qo, none⟩) m dc := (p6_ hF.out) (hw 5 (by decide))
      have e6 : s 48 = .int .i64 k := (p7_ hF.out) (hw 6 (by decide))
      dsimp only
      go_simp
      exact hK.out (ups (ups (ups s 47 (.slice (some ⟨qb, qo, none⟩) m dc)) 48 (.int .i64 k)) 49 (.slice (some ⟨qb, qo, none⟩) k dc)) b _ ⟨hB, (p1_ hF.out), (p2_ hF.out), (p3_ hF.out), (p4_ hF.out), (p5_ hF.out), (fun _ => rfl), (fun _ => rfl), (fun _ => rfl), (p9_ hF.out), (p10_ hF.out), (p11_ hF.out), (p12_ hF.out), (q13_ hF.out)⟩
    refine StepsF.cons (o := _) rfl (ws := [1, 3, 4, 7]) (by kernel_rfl) (by decide) (fun d s b w hF hd hw K_ hK => ?_) ?_
    · have hB : Below w4.heap.size w4 w := (p0_ hF.out)
      have e1 : s 43 = .agg (nums .u8 kf 32).toArray := (p2_ hF.out) (hw 1 (by decide))
      have e3 : s 45 = .agg (nums .u8 nf 12).toArray := (p4_ hF.out) (hw 3 (by decide))
      have e4 : s 46 = .slice p n c := (p5_ hF.out) (hw 4 (by decide))
      have e7 : s 49 = .slice (some ⟨qb, qo, none⟩) k dc := (p8_ hF.out) (hw 7 (by decide))
      dsimp only
      go_simp
      go_at_call 12
      refine (MC.out _ (HG.out.later hB) (HP.out.later hB) (.inr ⟨qb, qo, rfl, (has_take HQ.out (show k ≤ m by have := EK.out; omega)).later hB⟩)).mono ?_
      rintro e w1 ⟨rfl, hb⟩
      exact hK.out (ups (ups (ups (ups (ups s 43 (.agg (nums .u8 kf 32).toArray)) 45 (.agg (nums .u8 nf 12).toArray)) 46 (.slice p n c)) 49 (.slice (some ⟨qb, qo, none⟩) k dc)) 50 (.agg (nums .u8 T_ 16).toArray)) b _ ⟨(Below.go hB hb), (p1_ hF.out), (fun _ => rfl), (p3_ hF.out), (fun _ => rfl), (fun _ => rfl), (p6_ hF.out), (p7_ hF.out), (fun _ => rfl), (fun _ => rfl), (p10_ hF.out), (fun h0 h1 => ((p11_ hF.out) h0 h1).later hb), (fun h0 => ((p12_ hF.out) h0).later hb), (q13_ hF.out)⟩
    refine StepsF.cons (o := _) rfl (ws := []) (by kernel_rfl) (by decide) (fun d s b w hF hd hw K_ hK => ?_) ?_
    · have hB : Below w4.heap.size w4 w := (p0_ hF.out)
      dsimp only
      go_simp
      exact hK.out (ups s 10 (.pointer (some ⟨w.heap.size, 0, none⟩))) (ups b 9 w.heap.size) _ ⟨(hB.alloc hB.size _), (p1_ hF.out), (p2_ hF.out), (p3_ hF.out), (p4_ hF.out), (p5_ hF.out), (p6_ hF.out), (p7_ hF.out), (p8_ hF.out), (p9_ hF.out), (fun _ => ⟨rfl, hB.size⟩), (fun _ _ => Own.newAt rfl), (fun h => absurd ((q13_ hF.out) h) (by simp [hd])), (fun _ => rfl)⟩
    refine StepsF.cons (o := _) rfl (ws := [9, 8, 8, 0, 1, 2, 3, 4, 5, 6, 7, 8, 9]) (by kernel_rfl) (by decide) (fun d s b w hF hd hw K_ hK => ?_) ?_
    · have hB : Below w4.heap.size w4 w := (p0_ hF.out)
      have e0 : s 42 = .pointer (some ⟨D, 0, none⟩) := (p1_ hF.out) (hw 0 (by decide))
      have e1 : s 43 = .agg (nums .u8 kf 32).toArray := (p2_ hF.out) (hw 1 (by decide))
      have e2 : s 44 = .pointer (some ⟨D, 32, none⟩) := (p3_ hF.out) (hw 2 (by decide))
      have e3 : s 45 = .agg (nums .u8 nf 12).toArray := (p4_ hF.out) (hw 3 (by decide))
      have e4 : s 46 = .slice p n c := (p5_ hF.out) (hw 4 (by decide))
      have e5 : s 47 = .slice (some ⟨qb, qo, none⟩) m dc := (p6_ hF.out) (hw 5 (by decide))
      have e6 : s 48 = .int .i64 k := (p7_ hF.out) (hw 6 (by decide))
      have e7 : s 49 = .slice (some ⟨qb, qo, none⟩) k dc := (p8_ hF.out) (hw 7 (by decide))
      have e8 : s 50 = .agg (nums .u8 T_ 16).toArray := (p9_ hF.out) (hw 8 (by decide))
      have e9 : s 10 = .pointer (some ⟨(b 9), 0, none⟩) := ((p10_ hF.out) (hw 9 (by decide))).1
      have le9 : w4.heap.size ≤ b 9 := ((p10_ hF.out) (hw 9 (by decide))).2
      dsimp only
      have o9 := (p11_ hF.out) (hw 9 (by decide)) hd
      have hst := store_nums (P := Tryd.prog) (n := 16) .u8 T_ o9 rfl
      go_simp
      exact hK.out (ups (ups (ups (ups (ups (ups (ups (ups (ups (ups s 42 (.pointer (some ⟨D, 0, none⟩))) 43 (.agg (nums .u8 kf 32).toArray)) 44 (.pointer (some ⟨D, 32, none⟩))) 45 (.agg (nums .u8 nf 12).toArray)) 46 (.slice p n c)) 47 (.slice (some ⟨qb, qo, none⟩) m dc)) 48 (.int .i64 k)) 49 (.slice (some ⟨qb, qo, none⟩) k dc)) 50 (.agg (nums .u8 T_ 16).toArray)) 10 (.pointer (some ⟨(b 9), 0, none⟩))) b _ ⟨(Below.setCells hB le9 (nums .u8 T_ 16) 0), (fun _ => rfl), (fun _ => rfl), (fun _ => rfl), (fun _ => rfl), (fun _ => rfl), (fun _ => rfl), (fun _ => rfl), (fun _ => rfl), (fun _ => rfl), (fun _ => ⟨rfl, le9⟩), (fun _ h => nomatch h), (fun _ => Own.store (vs := (nums .u8 T_ 16)) o9 rfl), (fun _ => hw 9 (by decide))⟩
    exact StepsF.nil
  intro d s b y1 hF hall
  replace hF := Lib.hid hF
  have hB : Below w4.heap.size w4 y1 := (p0_ hF.out)
  try dsimp only
  have e0 : s 42 = .pointer (some ⟨D, 0, none⟩) := (p1_ hF.out) (hall 0 (by decide))
  have e1 : s 43 = .agg (nums .u8 kf 32).toArray := (p2_ hF.out) (hall 1 (by decide))
  have e2 : s 44 = .pointer (some ⟨D, 32, none⟩) := (p3_ hF.out) (hall 2 (by decide))
  have e3 : s 45 = .agg (nums .u8 nf 12).toArray := (p4_ hF.out) (hall 3 (by decide))
  have e4 : s 46 = .slice p n c := (p5_ hF.out) (hall 4 (by decide))
  have e5 : s 47 = .slice (some ⟨qb, qo, none⟩) m dc := (p6_ hF.out) (hall 5 (by decide))
  have e6 : s 48 = .int .i64 k := (p7_ hF.out) (hall 6 (by decide))
  have e7 : s 49 = .slice (some ⟨qb, qo, none⟩) k dc := (p8_ hF.out) (hall 7 (by decide))
  have e8 : s 50 = .agg (nums .u8 T_ 16).toArray := (p9_ hF.out) (hall 8 (by decide))
  have e9 : s 10 = .pointer (some ⟨(b 9), 0, none⟩) := ((p10_ hF.out) (hall 9 (by decide))).1
  have le9 : w4.heap.size ≤ b 9 := ((p10_ hF.out) (hall 9 (by decide))).2
  have f10 := (p12_ hF.out) (hall 10 (by decide))
  rw [e0, e1, e2, e3, e4, e5, e6, e7, e8, e9]
  clear hall hF e0 e1 e2 e3 e4 e5 e6 e7 e8 e9
  obtain ⟨X, hz⟩ : ∃ x, x = b 9 := ⟨_, rfl⟩
  rw [← hz] at le9 f10 ⊢
  clear hz
  clear d s b
  have HX := Lib.hid f10
  clear f10 le9 MC
  have HDk := Lib.hid (HD.out.later hB)
  have HGk := Lib.hid (HG.out.later hB)
  have HPk := Lib.hid (HP.out.later hB)
  have HQk := Lib.hid (HQ.out.later hB)
  have BAk := Lib.hid (BA.out.later hB)
  clear HD HG HP HQ BA
  have HD := HDk
  clear HDk
  have HG := HGk
  clear HGk
  have HP := HPk
  clear HPk
  have HQ := HQk
  clear HQk
  have BA := BAk
  clear BAk
  have hB1 := Below.go hB0 hB
  clear hB0 hB
  have hB0 := hB1
  clear hB1
  have HQk := Lib.hid (has_drop HQ.out (show k + 16 ≤ m by have := EK.out; omega))
  go_upto_region 7 with fail
  refine wp_region_fun 6 (by kernel_rfl) (by kernel_rfl) rfl (fun s b => ⟨#[.agg (seedC2 kf nf).toArray, .slice p n c, .slice (some ⟨qb, qo, none⟩) m dc, .pointer (some ⟨D, 0, none⟩), undef, undef, .bool false, .slice q4 k c4, .int .i64 0, .int .i64 k, .pointer (some ⟨X, 0, none⟩), undef, undef, .slice p n1 c, .slice p n c, .slice (some ⟨qb, qo, none⟩) n2 dc, .slice (some ⟨qb, qo, none⟩) m dc, .tuple #[.slice q4 k c4, .int .i64 0], .pointer (some ⟨D, 0, none⟩), .agg (nums .u8 kf 32).toArray, .pointer (some ⟨D, 32, none⟩), .agg (nums .u8 nf 12).toArray, .slice p n c, .slice (some ⟨qb, qo, none⟩) m dc, .tuple #[.slice q4 k c4, .int .i64 0], .slice q4 k c4, .int .i64 0, .slice (some ⟨qb, qo, none⟩) m dc, .int .i64 m, .int .i64 k, .int .i64 k, .bool false, undef, undef, undef, undef, undef, undef, undef, undef, undef, undef, .pointer (some ⟨D, 0, none⟩), .agg (nums .u8 kf 32).toArray, .pointer (some ⟨D, 32, none⟩), .agg (nums .u8 nf 12).toArray, .slice p n c, .slice (some ⟨qb, qo, none⟩) m dc, .int .i64 k, .slice (some ⟨qb, qo, none⟩) k dc, .agg (nums .u8 T_ 16).toArray, s 51, s 52, s 53, s 54, s 55, s 56, undef, undef, undef, undef, undef, undef, undef, undef, undef, undef, undef, undef, undef, undef, undef, undef, undef, undef, undef, undef, undef, undef, undef, undef, undef, undef, undef, undef, undef, undef, undef, undef, undef, undef], []⟩) (fun d s b w => (Below y1.heap.size y1 w) ∧ (d 0 = true → s 51 = .slice (some ⟨X, 0, none⟩) 16 16) ∧ (d 1 = true → s 52 = .slice (some ⟨qb, qo, none⟩) m dc) ∧ (d 2 = true → s 53 = .int .i64 k) ∧ (d 3 = true → s 54 = .slice (some ⟨qb, qo + k, none⟩) 16 (dc - k)) ∧ (d 4 = true → s 55 = .bool true) ∧ (d 5 = true → s 56 = .bool (!true))) rfl ?h0y2 (?sty2 : StepsF _ _ _ _ 6 _ _ [0, 1, 2, 3, 4, 5]) ?dny2
  case h0y2 => exact ⟨Below.drew (Below.refl _ _), (fun h => nomatch h), (fun h => nomatch h), (fun h => nomatch h), (fun h => nomatch h), (fun h => nomatch h), (fun h => nomatch h)⟩
  case sty2 =>
    refine StepsF.cons (o := _) rfl (ws := []) (by kernel_rfl) (by decide) (fun d s b w hF hd hw K_ hK => ?_) ?_
    · have hB : Below y1.heap.size y1 w := (p0_ hF.out)
      dsimp only
      go_simp
      exact hK.out (ups s 51 (.slice (some ⟨X, 0, none⟩) 16 16)) b _ ⟨hB, (fun _ => rfl), (p2_ hF.out), (p3_ hF.out), (p4_ hF.out), (p5_ hF.out), (q6_ hF.out)⟩
    refine StepsF.cons (o := _) rfl (ws := []) (by kernel_rfl) (by decide) (fun d s b w hF hd hw K_ hK => ?_) ?_
    · have hB : Below y1.heap.size y1 w := (p0_ hF.out)
      dsimp only
      go_simp
      exact hK.out (ups s 52 (.slice (some ⟨qb, qo, none⟩) m dc)) b _ ⟨hB, (p1_ hF.out), (fun _ => rfl), (p3_ hF.out), (p4_ hF.out), (p5_ hF.out), (q6_ hF.out)⟩
    refine StepsF.cons (o := _) rfl (ws := []) (by kernel_rfl) (by decide) (fun d s b w hF hd hw K_ hK => ?_) ?_
    · have hB : Below y1.heap.size y1 w := (p0_ hF.out)
      dsimp only
      go_simp
      exact hK.out (ups s 53 (.int .i64 k)) b _ ⟨hB, (p1_ hF.out), (p2_ hF.out), (fun _ => rfl), (p4_ hF.out), (p5_ hF.out), (q6_ hF.out)⟩
    refine StepsF.cons (o := _) rfl (ws := [1, 2]) (by kernel_rfl) (by decide) (fun d s b w hF hd hw K_ hK => ?_) ?_
    · have hB : Below y1.heap.size y1 w := (p0_ hF.out)
      have e1 : s 52 = .slice (some ⟨qb, qo, none⟩) m dc := (p2_ hF.out) (hw 1 (by decide))
      have e2 : s 53 = .int .i64 k := (p3_ hF.out) (hw 2 (by decide))
      dsimp only
      go_simp
      exact hK.out (ups (ups (ups s 52 (.slice (some ⟨qb, qo, none⟩) m dc)) 53 (.int .i64 k)) 54 (.slice (some ⟨qb, qo + k, none⟩) 16 (dc - k))) b _ ⟨hB, (p1_ hF.out), (fun _ => rfl), (fun _ => rfl), (fun _ => rfl), (p5_ hF.out), (q6_ hF.out)⟩
    refine StepsF.cons (o := _) rfl (ws := [0, 3]) (by kernel_rfl) (by decide) (fun d s b w hF hd hw K_ hK => ?_) ?_
    · have hB : Below y1.heap.size y1 w := (p0_ hF.out)
      have e0 : s 51 = .slice (some ⟨X, 0, none⟩) 16 16 := (p1_ hF.out) (hw 0 (by decide))
      have e3 : s 54 = .slice (some ⟨qb, qo + k, none⟩) 16 (dc - k) := (p4_ hF.out) (hw 3 (by decide))
      dsimp only
      go_simp
      go_at_call 17
      refine (EQ.out X _ (.inr ⟨X, 0, rfl, HX.out.has.later hB⟩) (.inr ⟨qb, qo + k, rfl, HQk.out.later hB⟩)).mono ?_
      rintro e w1 ⟨rfl, hb⟩
      exact hK.out (ups (ups (ups s 51 (.slice (some ⟨X, 0, none⟩) 16 16)) 54 (.slice (some ⟨qb, qo + k, none⟩) 16 (dc - k))) 55 (.bool true)) b _ ⟨(Below.go hB hb), (fun _ => rfl), (p2_ hF.out), (p3_ hF.out), (fun _ => rfl), (fun _ => rfl), (q6_ hF.out)⟩
    refine StepsF.cons (o := _) rfl (ws := [4]) (by kernel_rfl) (by decide) (fun d s b w hF hd hw K_ hK => ?_) ?_
    · have hB : Below y1.heap.size y1 w := (p0_ hF.out)
      have e4 : s 55 = .bool true := (p5_ hF.out) (hw 4 (by decide))
      dsimp only
      go_simp
      exact hK.out (ups (ups s 55 (.bool true)) 56 (.bool (!true))) b _ ⟨hB, (p1_ hF.out), (p2_ hF.out), (p3_ hF.out), (p4_ hF.out), (fun _ => rfl), (fun _ => rfl)⟩
    exact StepsF.nil
  intro d s b y2 hF hall
  replace hF := Lib.hid hF
  have hB : Below y1.heap.size y1 y2 := (p0_ hF.out)
  try dsimp only
  have e0 : s 51 = .slice (some ⟨X, 0, none⟩) 16 16 := (p1_ hF.out) (hall 0 (by decide))
  have e1 : s 52 = .slice (some ⟨qb, qo, none⟩) m dc := (p2_ hF.out) (hall 1 (by decide))
  have e2 : s 53 = .int .i64 k := (p3_ hF.out) (hall 2 (by decide))
  have e3 : s 54 = .slice (some ⟨qb, qo + k, none⟩) 16 (dc - k) := (p4_ hF.out) (hall 3 (by decide))
  have e4 : s 55 = .bool true := (p5_ hF.out) (hall 4 (by decide))
  have e5 : s 56 = .bool (!true) := (q6_ hF.out) (hall 5 (by decide))
  rw [e0, e1, e2, e3, e4, e5]
  clear hall hF e0 e1 e2 e3 e4 e5
  clear d s b
  clear HX HQk EQ
  have HDk := Lib.hid (HD.out.later hB)
  have HGk := Lib.hid (HG.out.later hB)
  have HPk := Lib.hid (HP.out.later hB)
  have HQk := Lib.hid (HQ.out.later hB)
  have BAk := Lib.hid (BA.out.later hB)
  clear HD HG HP HQ BA
  have HD := HDk
  clear HDk
  have HG := HGk
  clear HGk
  have HP := HPk
  clear HPk
  have HQ := HQk
  clear HQk
  have BA := BAk
  clear BAk
  have hB1 := Below.go hB0 hB
  clear hB0 hB
  have hB0 := hB1
  clear hB1
  go_upto_region 9 with fail
  refine wp_region_lit ?_
  refine wpList_val rfl (.pointer (some ⟨D, 0, none⟩)) (by kernel_rfl) ?_
  refine wpList_load_mid rfl 22 _ rfl D 0 rfl (nums .u8 kf 32) _ (seed2_key HD.out).cell Tryd.underlying22 rfl (by kernel_rfl) ?_
  refine wpList_val rfl (.pointer (some ⟨D, 32, none⟩)) (by kernel_rfl) ?_
  refine wpList_load_mid rfl 23 _ rfl D 32 rfl (nums .u8 nf 12) _ (seed2_non HD.out).cell Tryd.underlying23 rfl (by kernel_rfl) ?_
  go_wp2_with (fail)
  go_at_call 15
  refine (SP.out q4 c4 C4.out.1 C4.out.2 _ HG.out HP.out BA.out).mono ?_
  rintro e w5 ⟨v5, rfl, hrow, hb⟩
  rw [nums_congr (g := g) .u8 SE.out, ← EK.out] at hrow
  obtain ⟨q5, c5, rfl, _⟩ := row_form hrow
  have BB := Lib.hid (byt_row hrow).2
  clear hrow
  have HDk := Lib.hid (HD.out.later hb)
  have HGk := Lib.hid (HG.out.later hb)
  have HPk := Lib.hid (HP.out.later hb)
  have HQk := Lib.hid (HQ.out.later hb)
  clear HD HG HP HQ
  have HD := HDk
  clear HDk
  have HG := HGk
  clear HGk
  have HP := HPk
  clear HPk
  have HQ := HQk
  clear HQk
  have hB1 := Below.go hB0 hb
  clear hB0 hb
  have hB0 := hB1
  clear hB1
  go_wp2_with (fail)
  go_at_call 17
  refine (Equal_any q5 (some ⟨qb, qo, none⟩) m c5 dc g _ BB.out (.inr ⟨qb, qo, rfl, HQ.out⟩)).mono ?_
  rintro e w7 ⟨rfl, hb⟩
  have HGk := Lib.hid (HG.out.later hb)
  clear HG
  have HG := HGk
  clear HGk
  have hB1 := Below.go hB0 hb
  clear hB0 hb
  have hB0 := hB1
  clear hB1
  go_wp2_with (fail)
  go_at_call 14
  refine (works8_any _ HG.out).mono ?_
  rintro e w8 ⟨rfl, hb⟩
  have hB1 := Below.go hB0 hb
  clear hB0 hb
  have hB0 := hB1
  clear hB1
  go_wp2_with (fail)
  go_ret
  exact ⟨rfl, hB0⟩

set_option maxHeartbeats 4000000 in
theorem Just_false (kf nf f g : Nat → Int) (p q : Option Addr) (n1 n2 c dc n m : Nat) (e1 : min (n1 : Int) 250 = (n : Int)) (e2 : min (n2 : Int) 250 = (m : Int)) (hk : ∀ i, i < 32 → inB (kf i)) (hn : ∀ i, i < 12 → inB (nf i)) (hf : ∀ i, i < n → inB (f i)) (hg : ∀ i, i < m → inB (g i)) (hc1 : n1 ≤ c) (hd1 : n2 ≤ dc) (hc : c ≤ 9223372036854775807) (hd : dc ≤ 9223372036854775807) (w : World) (hG : Has 0 0 GL w) (hp : Byt w p n f) (hq : Byt w q m g) (k : Nat) (ek : m = k + 16) (ez : eqB (fun j => g (k + j)) (macF kf nf f n g k) 16 = false) :
    Calls Tryd.prog 7 #[(.agg (seedC2 kf nf).toArray), .slice p n1 c, .slice q n2 dc] w fun e w' => e = .returned (.bool true) ∧ Below w.heap.size w w' := by
  have FW1 := Lib.hid (fun w => few8_any p n1 c n e1 (by omega) w)
  have FW2 := Lib.hid (fun w => few8_any q n2 dc m e2 (by omega) w)
  have N25 := Lib.hid (show n ≤ 250 by omega); have M25 := Lib.hid (show m ≤ 250 by omega)
  have NC := Lib.hid (show n ≤ c by omega); have MD := Lib.hid (show m ≤ dc by omega)
  have HC := Lib.hid hc; have HD_ := Lib.hid hd; have FK := Lib.hid hk; have FN := Lib.hid hn; have HF := Lib.hid hf; have HGF := Lib.hid hg
  have HG0 := Lib.hid hG; have HP0 := Lib.hid hp; have HQ0 := Lib.hid hq
  obtain ⟨qb, qo, rfl, hqh⟩ := hq.resolve_left (by omega)
  have OP := Lib.hid (fun w hG hp hq => Open_core kf nf f g p qb qo n k m c dc ek false ez hk hn hf hg (by omega) (by omega) (by omega) (by omega) hc hd w hG hp hq)
  have MC := Lib.hid (fun w hG hp hq => Mac_any kf nf f g p (some ⟨qb, qo, none⟩) n k c dc hk hn hf (fun i hi => hg i (by omega)) (by omega) (by omega) (by omega) (by omega) hc hd w hG hp hq)
  have EQ := Lib.hid (fun X w h1 h2 => Equal2_any (some ⟨X, 0, none⟩) (some ⟨qb, qo + k, none⟩) 16 16 (dc - k) (macF kf nf f n g k) (fun j => g (k + j)) (fun i _ => in_macF _ _ _ _ _ _ _) (fun i hi => hg _ (by omega)) w h1 h2)
  have HQ0 := Lib.hid hqh
  rw [eqB_comm, ez] at EQ
  obtain ⟨T_, eT⟩ : ∃ x, macF kf nf f n g k = x := ⟨_, rfl⟩
  rw [eT] at MC EQ
  have sl := slq_some qb qo k dc (by omega)
  have n1_ : (m : Int) - 16 = (k : Int) := by omega
  have n2_ : IntKind.i64.wrap (k : Int) = (k : Int) := IntWalk.i64_in _ (by omega)
  have n3_ : m - k = 16 := by omega
  have n4_ : (0 : Int) ≤ (k : Int) := by omega
  have n5_ : (k : Int) ≤ (m : Int) := by omega
  have n6_ : (k : Int) ≤ (dc : Int) := by omega
  have n7_ : (m : Int) ≤ (dc : Int) := by omega
  have n8_ : ¬ (dc = k) := by omega
  have n9_ : decide ((k : Int) < 0) = false := by simp
  have EK := Lib.hid ek
  clear ez hqh ek eT
  clear e1 e2 hk hn hf hg hc1 hd1 hc hd hG hp hq
  go_enter Tryd.func7, Tryd.ntmps7
  go_upto_region 1 with fail
  obtain ⟨W0, hW⟩ : ∃ W0, W0 = (w.alloc (.cells (seedC2 kf nf).toArray 25)) := ⟨_, rfl⟩
  have hB0 : Below w.heap.size w W0 := hW ▸ (Below.al (Below.refl _ _))
  have HDo : Hid (Own w.heap.size (seedC2 kf nf) W0) := Lib.hid (hW ▸ (show Own w.heap.size (seedC2 kf nf) (w.alloc (.cells (seedC2 kf nf).toArray 25)) from Own.newAt (by simp)))
  rw [← hW]
  clear hW
  obtain ⟨D, eD⟩ : ∃ X, X = w.heap.size := ⟨_, rfl⟩
  rw [← eD] at HDo ⊢
  have Dw : w.heap.size ≤ D := by omega
  clear eD
  have HD := Lib.hid HDo.out.has
  have HG := Lib.hid (HG0.out.later hB0); have HP := Lib.hid (HP0.out.later hB0); have HQ := Lib.hid (HQ0.out.later hB0)
  clear HG0 HP0 HQ0 HDo
  go_wp2_with (fail)
  go_at_call 9
  refine (FW1.out _).mono ?_
  rintro e w1 ⟨rfl, hb⟩
  have HDk := Lib.hid (HD.out.later hb)
  have HGk := Lib.hid (HG.out.later hb)
  have HPk := Lib.hid (HP.out.later hb)
  have HQk := Lib.hid (HQ.out.later hb)
  clear HD HG HP HQ
  have HD := HDk
  clear HDk
  have HG := HGk
  clear HGk
  have HP := HPk
  clear HPk
  have HQ := HQk
  clear HQk
  have hB1 := Below.go hB0 hb
  clear hB0 hb
  have hB0 := hB1
  clear hB1
  go_wp2_with (fail)
  go_at_call 9
  refine (FW2.out _).mono ?_
  rintro e w2 ⟨rfl, hb⟩
  have HDk := Lib.hid (HD.out.later hb)
  have HGk := Lib.hid (HG.out.later hb)
  have HPk := Lib.hid (HP.out.later hb)
  have HQk := Lib.hid (HQ.out.later hb)
  clear HD HG HP HQ
  have HD := HDk
  clear HDk
  have HG := HGk
  clear HGk
  have HP := HPk
  clear HPk
  have HQ := HQk
  clear HQk
  have hB1 := Below.go hB0 hb
  clear hB0 hb
  have hB0 := hB1
  clear hB1
  clear FW1 FW2
  go_upto_region 2 with fail
  refine wp_region_lit ?_
  refine wpList_val rfl (.pointer (some ⟨D, 0, none⟩)) (by kernel_rfl) ?_
  refine wpList_load_mid rfl 22 _ rfl D 0 rfl (nums .u8 kf 32) _ (seed2_key HD.out).cell Tryd.underlying22 rfl (by kernel_rfl) ?_
  refine wpList_val rfl (.pointer (some ⟨D, 32, none⟩)) (by kernel_rfl) ?_
  refine wpList_load_mid rfl 23 _ rfl D 32 rfl (nums .u8 nf 12) _ (seed2_non HD.out).cell Tryd.underlying23 rfl (by kernel_rfl) ?_
  go_wp2_with (fail)
  go_at_call 18
  refine (OP.out _ HG.out HP.out HQ.out).mono ?_
  rintro e w4 ⟨he, hb⟩
  obtain rfl : e = .returned (.tuple #[.slice none 0 0, .int .i64 6]) := he
  have HDk := Lib.hid (HD.out.later hb)
  have HGk := Lib.hid (HG.out.later hb)
  have HPk := Lib.hid (HP.out.later hb)
  have HQk := Lib.hid (HQ.out.later hb)
  clear HD HG HP HQ
  have HD := HDk
  clear HDk
  have HG := HGk
  clear HGk
  have HP := HPk
  clear HPk
  have HQ := HQk
  clear HQk
  have hB1 := Below.go hB0 hb
  clear hB0 hb
  have hB0 := hB1
  clear hB1
  go_upto_region 6 with fail
  refine wp_region_fun 11 (by kernel_rfl) (by kernel_rfl) rfl (fun s b => ⟨#[.agg (seedC2 kf nf).toArray, .slice p n c, .slice (some ⟨qb, qo, none⟩) m dc, .pointer (some ⟨D, 0, none⟩), undef, undef, .bool false, .slice none 0 0, .int .i64 6, .int .i64 k, s 10, undef, undef, .slice p n1 c, .slice p n c, .slice (some ⟨qb, qo, none⟩) n2 dc, .slice (some ⟨qb, qo, none⟩) m dc, .tuple #[.slice none 0 0, .int .i64 6], .pointer (some ⟨D, 0, none⟩), .agg (nums .u8 kf 32).toArray, .pointer (some ⟨D, 32, none⟩), .agg (nums .u8 nf 12).toArray, .slice p n c, .slice (some ⟨qb, qo, none⟩) m dc, .tuple #[.slice none 0 0, .int .i64 6], .slice none 0 0, .int .i64 6, .slice (some ⟨qb, qo, none⟩) m dc, .int .i64 m, .int .i64 k, .int .i64 k, .bool false, undef, undef, undef, undef, undef, undef, undef, undef, undef, undef, s 42, s 43, s 44, s 45, s 46, s 47, s 48, s 49, s 50, undef, undef, undef, undef, undef, undef, undef, undef, undef, undef, undef, undef, undef, undef, undef, undef, undef, undef, undef, undef, undef, undef, undef, undef, undef, undef, undef, undef, undef, undef, undef, undef, undef, undef, undef, undef, undef, undef, undef, undef], []⟩) (fun d s b w => (Below w4.heap.size w4 w) ∧ (d 0 = true → s 42 = .pointer (some ⟨D, 0, none⟩)) ∧ (d 1 = true → s 43 = .agg (nums .u8 kf 32).toArray) ∧ (d 2 = true → s 44 = .pointer (some ⟨D, 32, none⟩)) ∧ (d 3 = true → s 45 = .agg (nums .u8 nf 12).toArray) ∧ (d 4 = true → s 46 = .slice p n c) ∧ (d 5 = true → s 47 = .slice (some ⟨qb, qo, none⟩) m dc) ∧ (d 6 = true → s 48 = .int .i64 k) ∧ (d 7 = true → s 49 = .slice (some ⟨qb, qo, none⟩) k dc) ∧ (d 8 = true → s 50 = .agg (nums .u8 T_ 16).toArray) ∧ (d 9 = true → s 10 = .pointer (some ⟨(b 9), 0, none⟩) ∧ w4.heap.size ≤ b 9) ∧ (d 9 = true → d 10 = false → Own (b 9) (nums .u8 (fun _ => 0) 16) w) ∧ (d 10 = true → Own (b 9) (nums .u8 T_ 16) w) ∧ (d 10 = true → d 9 = true)) rfl ?h0y1 (?sty1 : StepsF _ _ _ _ 11 _ _ [0, 1, 2, 3, 4, 5, 6, 7, 8, 9, 10]) ?dny1
  case h0y1 => exact ⟨Below.drew (Below.refl _ _), (fun h => nomatch h), (fun h => nomatch h), (fun h => nomatch h), (fun h => nomatch h), (fun h => nomatch h), (fun h => nomatch h), (fun h => nomatch h), (fun h => nomatch h), (fun h => nomatch h), (fun h => nomatch h), (fun h => nomatch h), (fun h => nomatch h), (fun h => nomatch h)⟩
  case sty1 =>
    refine StepsF.cons (o := _) rfl (ws := []) (by kernel_rfl) (by decide) (fun d s b w hF hd hw K_ hK => ?_) ?_
    · have hB : Below w4.heap.size w4 w := (p0_ hF.out)
      dsimp only
      go_simp
      exact hK.out (ups s 42 (.pointer (some ⟨D, 0, none⟩))) b _ ⟨hB, (fun _ => rfl), (p2_ hF.out), (p3_ hF.out), (p4_ hF.out), (p5_ hF.out), (p6_ hF.out), (p7_ hF.out), (p8_ hF.out), (p9_ hF.out), (p10_ hF.out), (p11_ hF.out), (p12_ hF.out), (q13_ hF.out)⟩
    refine StepsF.cons (o := _) rfl (ws := [0]) (by kernel_rfl) (by decide) (fun d s b w hF hd hw K_ hK => ?_) ?_
    · have hB : Below w4.heap.size w4 w := (p0_ hF.out)
      have e0 : s 42 = .pointer (some ⟨D, 0, none⟩) := (p1_ hF.out) (hw 0 (by decide))
      refine step_load (by simp [Region.wanted]) 22 _ rfl D 0 e0 (nums .u8 kf 32) _ (seed2_key (HD.out.later hB)).cell Tryd.underlying22 rfl (by kernel_rfl) ?_
      exact hK.out (ups s 43 (.agg (nums .u8 kf 32).toArray)) b _ ⟨hB, (p1_ hF.out), (fun _ => rfl), (p3_ hF.out), (p4_ hF.out), (p5_ hF.out), (p6_ hF.out), (p7_ hF.out), (p8_ hF.out), (p9_ hF.out), (p10_ hF.out), (p11_ hF.out), (p12_ hF.out), (q13_ hF.out)⟩
    refine StepsF.cons (o := _) rfl (ws := []) (by kernel_rfl) (by decide) (fun d s b w hF hd hw K_ hK => ?_) ?_
    · have hB : Below w4.heap.size w4 w := (p0_ hF.out)
      dsimp only
      go_simp
      exact hK.out (ups s 44 (.pointer (some ⟨D, 32, none⟩))) b _ ⟨hB, (p1_ hF.out), (p2_ hF.out), (fun _ => rfl), (p4_ hF.out), (p5_ hF.out), (p6_ hF.out), (p7_ hF.out), (p8_ hF.out), (p9_ hF.out), (p10_ hF.out), (p11_ hF.out), (p12_ hF.out), (q13_ hF.out)⟩
    refine StepsF.cons (o := _) rfl (ws := [2]) (by kernel_rfl) (by decide) (fun d s b w hF hd hw K_ hK => ?_) ?_
    · have hB : Below w4.heap.size w4 w := (p0_ hF.out)
      have e2 : s 44 = .pointer (some ⟨D, 32, none⟩) := (p3_ hF.out) (hw 2 (by decide))
      refine step_load (by simp [Region.wanted]) 23 _ rfl D 32 e2 (nums .u8 nf 12) _ (seed2_non (HD.out.later hB)).cell Tryd.underlying23 rfl (by kernel_rfl) ?_
      exact hK.out (ups s 45 (.agg (nums .u8 nf 12).toArray)) b _ ⟨hB, (p1_ hF.out), (p2_ hF.out), (p3_ hF.out), (fun _ => rfl), (p5_ hF.out), (p6_ hF.out), (p7_ hF.out), (p8_ hF.out), (p9_ hF.out), (p10_ hF.out), (p11_ hF.out), (p12_ hF.out), (q13_ hF.out)⟩
    refine StepsF.cons (o := _) rfl (ws := []) (by kernel_rfl) (by decide) (fun d s b w hF hd hw K_ hK => ?_) ?_
    · have hB : Below w4.heap.size w4 w := (p0_ hF.out)
      dsimp only
      go_simp
      exact hK.out (ups s 46 (.slice p n c)) b _ ⟨hB, (p1_ hF.out), (p2_ hF.out), (p3_ hF.out), (p4_ hF.out), (fun _ => rfl), (p6_ hF.out), (p7_ hF.out), (p8_ hF.out), (p9_ hF.out), (p10_ hF.out), (p11_ hF.out), (p12_ hF.out), (q13_ hF.out)⟩
    refine StepsF.cons (o := _) rfl (ws := []) (by kernel_rfl) (by decide) (fun d s b w hF hd hw K_ hK => ?_) ?_
    · have hB : Below w4.heap.size w4 w := (p0_ hF.out)
      dsimp only
      go_simp
      exact hK.out (ups s 47 (.slice (some ⟨qb, qo, none⟩) m dc)) b _ ⟨hB, (p1_ hF.out), (p2_ hF.out), (p3_ hF.out), (p4_ hF.out), (p5_ hF.out), (fun _ => rfl), (p7_ hF.out), (p8_ hF.out), (p9_ hF.out), (p10_ hF.out), (p11_ hF.out), (p12_ hF.out), (q13_ hF.out)⟩
    refine StepsF.cons (o := _) rfl (ws := []) (by kernel_rfl) (by decide) (fun d s b w hF hd hw K_ hK => ?_) ?_
    · have hB : Below w4.heap.size w4 w := (p0_ hF.out)
      dsimp only
      go_simp
      exact hK.out (ups s 48 (.int .i64 k)) b _ ⟨hB, (p1_ hF.out), (p2_ hF.out), (p3_ hF.out), (p4_ hF.out), (p5_ hF.out), (p6_ hF.out), (fun _ => rfl), (p8_ hF.out), (p9_ hF.out), (p10_ hF.out), (p11_ hF.out), (p12_ hF.out), (q13_ hF.out)⟩
    refine StepsF.cons (o := _) rfl (ws := [5, 6]) (by kernel_rfl) (by decide) (fun d s b w hF hd hw K_ hK => ?_) ?_
    · have hB : Below w4.heap.size w4 w := (p0_ hF.out)
      have e5 : s 47 = .slice (some ⟨qb, qo, none⟩) m dc := (p6_ hF.out) (hw 5 (by decide))
      have e6 : s 48 = .int .i64 k := (p7_ hF.out) (hw 6 (by decide))
      dsimp only
      go_simp
      exact hK.out (ups (ups (ups s 47 (.slice (some ⟨qb, qo, none⟩) m dc)) 48 (.int .i64 k)) 49 (.slice (some ⟨qb, qo, none⟩) k dc)) b _ ⟨hB, (p1_ hF.out), (p2_ hF.out), (p3_ hF.out), (p4_ hF.out), (p5_ hF.out), (fun _ => rfl), (fun _ => rfl), (fun _ => rfl), (p9_ hF.out), (p10_ hF.out), (p11_ hF.out), (p12_ hF.out), (q13_ hF.out)⟩
    refine StepsF.cons (o := _) rfl (ws := [1, 3, 4, 7]) (by kernel_rfl) (by decide) (fun d s b w hF hd hw K_ hK => ?_) ?_
    · have hB : Below w4.heap.size w4 w := (p0_ hF.out)
      have e1 : s 43 = .agg (nums .u8 kf 32).toArray := (p2_ hF.out) (hw 1 (by decide))
      have e3 : s 45 = .agg (nums .u8 nf 12).toArray := (p4_ hF.out) (hw 3 (by decide))
      have e4 : s 46 = .slice p n c := (p5_ hF.out) (hw 4 (by decide))
      have e7 : s 49 = .slice (some ⟨qb, qo, none⟩) k dc := (p8_ hF.out) (hw 7 (by decide))
      dsimp only
      go_simp
      go_at_call 12
      refine (MC.out _ (HG.out.later hB) (HP.out.later hB) (.inr ⟨qb, qo, rfl, (has_take HQ.out (show k ≤ m by have := EK.out; omega)).later hB⟩)).mono ?_
      rintro e w1 ⟨rfl, hb⟩
      exact hK.out (ups (ups (ups (ups (ups s 43 (.agg (nums .u8 kf 32).toArray)) 45 (.agg (nums .u8 nf 12).toArray)) 46 (.slice p n c)) 49 (.slice (some ⟨qb, qo, none⟩) k dc)) 50 (.agg (nums .u8 T_ 16).toArray)) b _ ⟨(Below.go hB hb), (p1_ hF.out), (fun _ => rfl), (p3_ hF.out), (fun _ => rfl), (fun _ => rfl), (p6_ hF.out), (p7_ hF.out), (fun _ => rfl), (fun _ => rfl), (p10_ hF.out), (fun h0 h1 => ((p11_ hF.out) h0 h1).later hb), (fun h0 => ((p12_ hF.out) h0).later hb), (q13_ hF.out)⟩
    refine StepsF.cons (o := _) rfl (ws := []) (by kernel_rfl) (by decide) (fun d s b w hF hd hw K_ hK => ?_) ?_
    · have hB : Below w4.heap.size w4 w := (p0_ hF.out)
      dsimp only
      go_simp
      exact hK.out (ups s 10 (.pointer (some ⟨w.heap.size, 0, none⟩))) (ups b 9 w.heap.size) _ ⟨(hB.alloc hB.size _), (p1_ hF.out), (p2_ hF.out), (p3_ hF.out), (p4_ hF.out), (p5_ hF.out), (p6_ hF.out), (p7_ hF.out), (p8_ hF.out), (p9_ hF.out), (fun _ => ⟨rfl, hB.size⟩), (fun _ _ => Own.newAt rfl), (fun h => absurd ((q13_ hF.out) h) (by simp [hd])), (fun _ => rfl)⟩
    refine StepsF.cons (o := _) rfl (ws := [9, 8, 8, 0, 1, 2, 3, 4, 5, 6, 7, 8, 9]) (by kernel_rfl) (by decide) (fun d s b w hF hd hw K_ hK => ?_) ?_
    · have hB : Below w4.heap.size w4 w := (p0_ hF.out)
      have e0 : s 42 = .pointer (some ⟨D, 0, none⟩) := (p1_ hF.out) (hw 0 (by decide))
      have e1 : s 43 = .agg (nums .u8 kf 32).toArray := (p2_ hF.out) (hw 1 (by decide))
      have e2 : s 44 = .pointer (some ⟨D, 32, none⟩) := (p3_ hF.out) (hw 2 (by decide))
      have e3 : s 45 = .agg (nums .u8 nf 12).toArray := (p4_ hF.out) (hw 3 (by decide))
      have e4 : s 46 = .slice p n c := (p5_ hF.out) (hw 4 (by decide))
      have e5 : s 47 = .slice (some ⟨qb, qo, none⟩) m dc := (p6_ hF.out) (hw 5 (by decide))
      have e6 : s 48 = .int .i64 k := (p7_ hF.out) (hw 6 (by decide))
      have e7 : s 49 = .slice (some ⟨qb, qo, none⟩) k dc := (p8_ hF.out) (hw 7 (by decide))
      have e8 : s 50 = .agg (nums .u8 T_ 16).toArray := (p9_ hF.out) (hw 8 (by decide))
      have e9 : s 10 = .pointer (some ⟨(b 9), 0, none⟩) := ((p10_ hF.out) (hw 9 (by decide))).1
      have le9 : w4.heap.size ≤ b 9 := ((p10_ hF.out) (hw 9 (by decide))).2
      dsimp only
      have o9 := (p11_ hF.out) (hw 9 (by decide)) hd
      have hst := store_nums (P := Tryd.prog) (n := 16) .u8 T_ o9 rfl
      go_simp
      exact hK.out (ups (ups (ups (ups (ups (ups (ups (ups (ups (ups s 42 (.pointer (some ⟨D, 0, none⟩))) 43 (.agg (nums .u8 kf 32).toArray)) 44 (.pointer (some ⟨D, 32, none⟩))) 45 (.agg (nums .u8 nf 12).toArray)) 46 (.slice p n c)) 47 (.slice (some ⟨qb, qo, none⟩) m dc)) 48 (.int .i64 k)) 49 (.slice (some ⟨qb, qo, none⟩) k dc)) 50 (.agg (nums .u8 T_ 16).toArray)) 10 (.pointer (some ⟨(b 9), 0, none⟩))) b _ ⟨(Below.setCells hB le9 (nums .u8 T_ 16) 0), (fun _ => rfl), (fun _ => rfl), (fun _ => rfl), (fun _ => rfl), (fun _ => rfl), (fun _ => rfl), (fun _ => rfl), (fun _ => rfl), (fun _ => rfl), (fun _ => ⟨rfl, le9⟩), (fun _ h => nomatch h), (fun _ => Own.store (vs := (nums .u8 T_ 16)) o9 rfl), (fun _ => hw 9 (by decide))⟩
    exact StepsF.nil
  intro d s b y1 hF hall
  replace hF := Lib.hid hF
  have hB : Below w4.heap.size w4 y1 := (p0_ hF.out)
  try dsimp only
  have e0 : s 42 = .pointer (some ⟨D, 0, none⟩) := (p1_ hF.out) (hall 0 (by decide))
  have e1 : s 43 = .agg (nums .u8 kf 32).toArray := (p2_ hF.out) (hall 1 (by decide))
  have e2 : s 44 = .pointer (some ⟨D, 32, none⟩) := (p3_ hF.out) (hall 2 (by decide))
  have e3 : s 45 = .agg (nums .u8 nf 12).toArray := (p4_ hF.out) (hall 3 (by decide))
  have e4 : s 46 = .slice p n c := (p5_ hF.out) (hall 4 (by decide))
  have e5 : s 47 = .slice (some ⟨qb, qo, none⟩) m dc := (p6_ hF.out) (hall 5 (by decide))
  have e6 : s 48 = .int .i64 k := (p7_ hF.out) (hall 6 (by decide))
  have e7 : s 49 = .slice (some ⟨qb, qo, none⟩) k dc := (p8_ hF.out) (hall 7 (by decide))
  have e8 : s 50 = .agg (nums .u8 T_ 16).toArray := (p9_ hF.out) (hall 8 (by decide))
  have e9 : s 10 = .pointer (some ⟨(b 9), 0, none⟩) := ((p10_ hF.out) (hall 9 (by decide))).1
  have le9 : w4.heap.size ≤ b 9 := ((p10_ hF.out) (hall 9 (by decide))).2
  have f10 := (p12_ hF.out) (hall 10 (by decide))
  rw [e0, e1, e2, e3, e4, e5, e6, e7, e8, e9]
  clear hall hF e0 e1 e2 e3 e4 e5 e6 e7 e8 e9
  obtain ⟨X, hz⟩ : ∃ x, x = b 9 := ⟨_, rfl⟩
  rw [← hz] at le9 f10 ⊢
  clear hz
  clear d s b
  have HX := Lib.hid f10
  clear f10 le9 MC
  have HDk := Lib.hid (HD.out.later hB)
  have HGk := Lib.hid (HG.out.later hB)
  have HPk := Lib.hid (HP.out.later hB)
  have HQk := Lib.hid (HQ.out.later hB)
  clear HD HG HP HQ
  have HD := HDk
  clear HDk
  have HG := HGk
  clear HGk
  have HP := HPk
  clear HPk
  have HQ := HQk
  clear HQk
  have hB1 := Below.go hB0 hB
  clear hB0 hB
  have hB0 := hB1
  clear hB1
  have HQk := Lib.hid (has_drop HQ.out (show k + 16 ≤ m by have := EK.out; omega))
  go_upto_region 7 with fail
  refine wp_region_fun 6 (by kernel_rfl) (by kernel_rfl) rfl (fun s b => ⟨#[.agg (seedC2 kf nf).toArray, .slice p n c, .slice (some ⟨qb, qo, none⟩) m dc, .pointer (some ⟨D, 0, none⟩), undef, undef, .bool false, .slice none 0 0, .int .i64 6, .int .i64 k, .pointer (some ⟨X, 0, none⟩), undef, undef, .slice p n1 c, .slice p n c, .slice (some ⟨qb, qo, none⟩) n2 dc, .slice (some ⟨qb, qo, none⟩) m dc, .tuple #[.slice none 0 0, .int .i64 6], .pointer (some ⟨D, 0, none⟩), .agg (nums .u8 kf 32).toArray, .pointer (some ⟨D, 32, none⟩), .agg (nums .u8 nf 12).toArray, .slice p n c, .slice (some ⟨qb, qo, none⟩) m dc, .tuple #[.slice none 0 0, .int .i64 6], .slice none 0 0, .int .i64 6, .slice (some ⟨qb, qo, none⟩) m dc, .int .i64 m, .int .i64 k, .int .i64 k, .bool false, undef, undef, undef, undef, undef, undef, undef, undef, undef, undef, .pointer (some ⟨D, 0, none⟩), .agg (nums .u8 kf 32).toArray, .pointer (some ⟨D, 32, none⟩), .agg (nums .u8 nf 12).toArray, .slice p n c, .slice (some ⟨qb, qo, none⟩) m dc, .int .i64 k, .slice (some ⟨qb, qo, none⟩) k dc, .agg (nums .u8 T_ 16).toArray, s 51, s 52, s 53, s 54, s 55, s 56, undef, undef, undef, undef, undef, undef, undef, undef, undef, undef, undef, undef, undef, undef, undef, undef, undef, undef, undef, undef, undef, undef, undef, undef, undef, undef, undef, undef, undef, undef, undef, undef, undef, undef], []⟩) (fun d s b w => (Below y1.heap.size y1 w) ∧ (d 0 = true → s 51 = .slice (some ⟨X, 0, none⟩) 16 16) ∧ (d 1 = true → s 52 = .slice (some ⟨qb, qo, none⟩) m dc) ∧ (d 2 = true → s 53 = .int .i64 k) ∧ (d 3 = true → s 54 = .slice (some ⟨qb, qo + k, none⟩) 16 (dc - k)) ∧ (d 4 = true → s 55 = .bool false) ∧ (d 5 = true → s 56 = .bool (!false))) rfl ?h0y2 (?sty2 : StepsF _ _ _ _ 6 _ _ [0, 1, 2, 3, 4, 5]) ?dny2
  case h0y2 => exact ⟨Below.drew (Below.refl _ _), (fun h => nomatch h), (fun h => nomatch h), (fun h => nomatch h), (fun h => nomatch h), (fun h => nomatch h), (fun h => nomatch h)⟩
  case sty2 =>
    refine StepsF.cons (o := _) rfl (ws := []) (by kernel_rfl) (by decide) (fun d s b w hF hd hw K_ hK => ?_) ?_
    · have hB : Below y1.heap.size y1 w := (p0_ hF.out)
      dsimp only
      go_simp
      exact hK.out (ups s 51 (.slice (some ⟨X, 0, none⟩) 16 16)) b _ ⟨hB, (fun _ => rfl), (p2_ hF.out), (p3_ hF.out), (p4_ hF.out), (p5_ hF.out), (q6_ hF.out)⟩
    refine StepsF.cons (o := _) rfl (ws := []) (by kernel_rfl) (by decide) (fun d s b w hF hd hw K_ hK => ?_) ?_
    · have hB : Below y1.heap.size y1 w := (p0_ hF.out)
      dsimp only
      go_simp
      exact hK.out (ups s 52 (.slice (some ⟨qb, qo, none⟩) m dc)) b _ ⟨hB, (p1_ hF.out), (fun _ => rfl), (p3_ hF.out), (p4_ hF.out), (p5_ hF.out), (q6_ hF.out)⟩
    refine StepsF.cons (o := _) rfl (ws := []) (by kernel_rfl) (by decide) (fun d s b w hF hd hw K_ hK => ?_) ?_
    · have hB : Below y1.heap.size y1 w := (p0_ hF.out)
      dsimp only
      go_simp
      exact hK.out (ups s 53 (.int .i64 k)) b _ ⟨hB, (p1_ hF.out), (p2_ hF.out), (fun _ => rfl), (p4_ hF.out), (p5_ hF.out), (q6_ hF.out)⟩
    refine StepsF.cons (o := _) rfl (ws := [1, 2]) (by kernel_rfl) (by decide) (fun d s b w hF hd hw K_ hK => ?_) ?_
    · have hB : Below y1.heap.size y1 w := (p0_ hF.out)
      have e1 : s 52 = .slice (some ⟨qb, qo, none⟩) m dc := (p2_ hF.out) (hw 1 (by decide))
      have e2 : s 53 = .int .i64 k := (p3_ hF.out) (hw 2 (by decide))
      dsimp only
      go_simp
      exact hK.out (ups (ups (ups s 52 (.slice (some ⟨qb, qo, none⟩) m dc)) 53 (.int .i64 k)) 54 (.slice (some ⟨qb, qo + k, none⟩) 16 (dc - k))) b _ ⟨hB, (p1_ hF.out), (fun _ => rfl), (fun _ => rfl), (fun _ => rfl), (p5_ hF.out), (q6_ hF.out)⟩
    refine StepsF.cons (o := _) rfl (ws := [0, 3]) (by kernel_rfl) (by decide) (fun d s b w hF hd hw K_ hK => ?_) ?_
    · have hB : Below y1.heap.size y1 w := (p0_ hF.out)
      have e0 : s 51 = .slice (some ⟨X, 0, none⟩) 16 16 := (p1_ hF.out) (hw 0 (by decide))
      have e3 : s 54 = .slice (some ⟨qb, qo + k, none⟩) 16 (dc - k) := (p4_ hF.out) (hw 3 (by decide))
      dsimp only
      go_simp
      go_at_call 17
      refine (EQ.out X _ (.inr ⟨X, 0, rfl, HX.out.has.later hB⟩) (.inr ⟨qb, qo + k, rfl, HQk.out.later hB⟩)).mono ?_
      rintro e w1 ⟨rfl, hb⟩
      exact hK.out (ups (ups (ups s 51 (.slice (some ⟨X, 0, none⟩) 16 16)) 54 (.slice (some ⟨qb, qo + k, none⟩) 16 (dc - k))) 55 (.bool false)) b _ ⟨(Below.go hB hb), (fun _ => rfl), (p2_ hF.out), (p3_ hF.out), (fun _ => rfl), (fun _ => rfl), (q6_ hF.out)⟩
    refine StepsF.cons (o := _) rfl (ws := [4]) (by kernel_rfl) (by decide) (fun d s b w hF hd hw K_ hK => ?_) ?_
    · have hB : Below y1.heap.size y1 w := (p0_ hF.out)
      have e4 : s 55 = .bool false := (p5_ hF.out) (hw 4 (by decide))
      dsimp only
      go_simp
      exact hK.out (ups (ups s 55 (.bool false)) 56 (.bool (!false))) b _ ⟨hB, (p1_ hF.out), (p2_ hF.out), (p3_ hF.out), (p4_ hF.out), (fun _ => rfl), (fun _ => rfl)⟩
    exact StepsF.nil
  intro d s b y2 hF hall
  replace hF := Lib.hid hF
  have hB : Below y1.heap.size y1 y2 := (p0_ hF.out)
  try dsimp only
  have e0 : s 51 = .slice (some ⟨X, 0, none⟩) 16 16 := (p1_ hF.out) (hall 0 (by decide))
  have e1 : s 52 = .slice (some ⟨qb, qo, none⟩) m dc := (p2_ hF.out) (hall 1 (by decide))
  have e2 : s 53 = .int .i64 k := (p3_ hF.out) (hall 2 (by decide))
  have e3 : s 54 = .slice (some ⟨qb, qo + k, none⟩) 16 (dc - k) := (p4_ hF.out) (hall 3 (by decide))
  have e4 : s 55 = .bool false := (p5_ hF.out) (hall 4 (by decide))
  have e5 : s 56 = .bool (!false) := (q6_ hF.out) (hall 5 (by decide))
  rw [e0, e1, e2, e3, e4, e5]
  clear hall hF e0 e1 e2 e3 e4 e5
  clear d s b
  clear HX HQk EQ
  have HDk := Lib.hid (HD.out.later hB)
  have HGk := Lib.hid (HG.out.later hB)
  have HPk := Lib.hid (HP.out.later hB)
  have HQk := Lib.hid (HQ.out.later hB)
  clear HD HG HP HQ
  have HD := HDk
  clear HDk
  have HG := HGk
  clear HGk
  have HP := HPk
  clear HPk
  have HQ := HQk
  clear HQk
  have hB1 := Below.go hB0 hB
  clear hB0 hB
  have hB0 := hB1
  clear hB1
  go_wp2_with (fail)
  go_at_call 14
  refine (works8_any _ HG.out).mono ?_
  rintro e w8 ⟨rfl, hb⟩
  have hB1 := Below.go hB0 hb
  clear hB0 hb
  have hB0 := hB1
  clear hB1
  go_wp2_with (fail)
  go_ret
  exact ⟨rfl, hB0⟩

theorem Just_law (kf nf f g : Nat → Int) (p q : Option Addr) (n1 n2 c dc n m : Nat) (e1 : min (n1 : Int) 250 = (n : Int)) (e2 : min (n2 : Int) 250 = (m : Int)) (hk : ∀ i, i < 32 → inB (kf i)) (hn : ∀ i, i < 12 → inB (nf i)) (hf : ∀ i, i < n → inB (f i)) (hg : ∀ i, i < m → inB (g i)) (hc1 : n1 ≤ c) (hd1 : n2 ≤ dc) (hc : c ≤ 9223372036854775807) (hd : dc ≤ 9223372036854775807) (w : World) (hG : Has 0 0 GL w) (hp : Byt w p n f) (hq : Byt w q m g) :
    Calls Tryd.prog 7 #[(.agg (seedC2 kf nf).toArray), .slice p n1 c, .slice q n2 dc] w fun e w' => e = .returned (.bool true) ∧ Below w.heap.size w w' := by
  by_cases hm : m < 16
  · exact Just_short kf nf f g p q n1 n2 c dc n m e1 e2 hk hn hf hg hc1 hd1 hc hd w hG hp hq hm
  · obtain ⟨k, ek⟩ : ∃ k, m = k + 16 := ⟨m - 16, by omega⟩
    cases ez : eqB (fun j => g (k + j)) (macF kf nf f n g k) 16 with
    | true => exact Just_true kf nf f g p q n1 n2 c dc n m e1 e2 hk hn hf hg hc1 hd1 hc hd w hG hp hq k ek ez
    | false => exact Just_false kf nf f g p q n1 n2 c dc n m e1 e2 hk hn hf hg hc1 hd1 hc hd w hG hp hq k ek ez
end Go.Proofs.YtjkeaiihjbcfgaaDoor
