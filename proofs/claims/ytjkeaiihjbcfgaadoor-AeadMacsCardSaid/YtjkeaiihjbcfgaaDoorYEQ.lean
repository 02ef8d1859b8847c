/- AeadMacs: the walk. -/
import Derived.Test.YtjkeaiihjbcfgaaDoorYEN
import Derived.Lib.Hide
import Derived.Deep.Onto
import Derived.Laws.OwnMore
namespace Go.Proofs.YtjkeaiihjbcfgaaDoor
set_option linter.unusedVariables false
set_option maxRecDepth 2000
set_option linter.unusedSimpArgs false
open Go.RowKit
/-- '==' of two arrays of 32 bytes -/
theorem eq32 (f : Nat → Int) (w : World) : (Op.equalIn 10000 22 (.agg (nums .u8 f 32).toArray) (.agg (nums .u8 f 32).toArray)).run Tryd.prog w = .ok true w :=
  eq_nums (e := 5) 9998 Tryd.underlying22 Tryd.underlying5 (by simp [go_sem]) (by simp [go_sem])
attribute [local go_sem] nums_length

set_option maxHeartbeats 8000000 in
theorem Macs_law (kf nf f g : Nat → Int) (p q : Option Addr) (n1 n2 c dc n m : Nat) (e1 : min (n1 : Int) 250 = (n : Int)) (e2 : min (n2 : Int) 250 = (m : Int)) (hk : ∀ i, i < 32 → inB (kf i)) (hn : ∀ i, i < 12 → inB (nf i)) (hf : ∀ i, i < n → inB (f i)) (hg : ∀ i, i < m → inB (g i)) (hc1 : n1 ≤ c) (hd1 : n2 ≤ dc) (hc : c ≤ 9223372036854775807) (hd : dc ≤ 9223372036854775807) (w : World) (hG : Has 0 0 GL w) (hp : Byt w p n f) (hq : Byt w q m g) :
    Calls Tryd.prog 3 #[(.agg (seedC2 kf nf).toArray), .slice p n1 c, .slice q n2 dc] w fun e w' => e = .returned (.bool true) ∧ Below w.heap.size w w' := by
  have FW1 := Lib.hid (fun w => few8_any p n1 c n e1 (by omega) w)
  have FW2 := Lib.hid (fun w => few8_any q n2 dc m e2 (by omega) w)
  have N25 := Lib.hid (show n ≤ 250 by omega); have M25 := Lib.hid (show m ≤ 250 by omega)
  have NC := Lib.hid (show n ≤ c by omega); have MD := Lib.hid (show m ≤ dc by omega)
  have HC := Lib.hid hc; have HD_ := Lib.hid hd; have FK := Lib.hid hk; have FN := Lib.hid hn; have HF := Lib.hid hf; have HGF := Lib.hid hg
  have HG0 := Lib.hid hG; have HP0 := Lib.hid hp; have HQ0 := Lib.hid hq
  have KP := Lib.hid (fun w hG => Key_any kf nf hk hn w hG)
  have RK := Lib.hid (fun w => RKey_any kf nf hk hn w)
  have MC := Lib.hid (fun w hG hp hq => Mac_any kf nf f g p q n m c dc hk hn hf hg (by omega) (by omega) (by omega) (by omega) hc hd w hG hp hq)
  have RM := Lib.hid (fun w hp hq => RMac_any kf nf f g p q n m c dc hk hn hf hg (by omega) (by omega) w hp hq)
  obtain ⟨T_, eT⟩ : ∃ x, macF kf nf f n g m = x := ⟨_, rfl⟩
  rw [eT] at MC RM
  obtain ⟨K_f, eK⟩ : ∃ x, blkF kf 0 nf = x := ⟨_, rfl⟩
  rw [eK] at KP RK
  have EA := Lib.hid (fun w => eq32 K_f w)
  have EB := Lib.hid (fun w => eq16 T_ T_ w)
  rw [eqB_self] at EB
  clear eT eK
  clear e1 e2 hk hn hf hg hc1 hd1 hc hd hG hp hq
  go_enter Tryd.func3, Tryd.ntmps3
  go_upto_region 1 with fail
  obtain ⟨W0, hW⟩ : ∃ W0, W0 = (w.alloc (.cells (seedC2 kf nf).toArray 25)) := ⟨_, rfl⟩
  have hB0 : Below w.heap.size w W0 := hW ▸ (Below.al (Below.refl _ _))
  have HDo : Hid (Own w.heap.size (seedC2 kf nf) W0) := Lib.hid (hW ▸ (show Own w.heap.size (seedC2 kf nf) (w.alloc (.cells (seedC2 kf nf).toArray 25)) from Own.newAt (by simp)))
  rw [← hW]
  clear hW
  obtain ⟨D, eD⟩ : ∃ X, X = w.heap.size := ⟨_, rfl⟩
  rw [← eD] at HDo ⊢
  have Dw : w.heap.size ≤ D := by omega
  clear eD
  have HD := Lib.hid HDo.out.has
  have HG := Lib.hid (HG0.out.later hB0); have HP := Lib.hid (HP0.out.later hB0); have HQ := Lib.hid (HQ0.out.later hB0)
  clear HG0 HP0 HQ0 HDo
  go_wp2_with (fail)
  go_at_call 9
  refine (FW1.out _).mono ?_
  rintro e w1 ⟨rfl, hb⟩
  have HDk := Lib.hid (HD.out.later hb)
  have HGk := Lib.hid (HG.out.later hb)
  have HPk := Lib.hid (HP.out.later hb)
  have HQk := Lib.hid (HQ.out.later hb)
  clear HD HG HP HQ
  have HD := HDk
  clear HDk
  have HG := HGk
  clear HGk
  have HP := HPk
  clear HPk
  have HQ := HQk
  clear HQk
  have hB1 := Below.go hB0 hb
  clear hB0 hb
  have hB0 := hB1
  clear hB1
  go_wp2_with (fail)
  go_at_call 9
  refine (FW2.out _).mono ?_
  rintro e w2 ⟨rfl, hb⟩
  have HDk := Lib.hid (HD.out.later hb)
  have HGk := Lib.hid (HG.out.later hb)
  have HPk := Lib.hid (HP.out.later hb)
  have HQk := Lib.hid (HQ.out.later hb)
  clear HD HG HP HQ
  have HD := HDk
  clear HDk
  have HG := HGk
  clear HGk
  have HP := HPk
  clear HPk
  have HQ := HQk
  clear HQk
  have hB1 := Below.go hB0 hb
  clear hB0 hb
  have hB0 := hB1
  clear hB1
  clear FW1 FW2
  go_upto_region 2 with fail
  refine wp_region_fun 32 (by kernel_rfl) (by kernel_rfl) rfl (fun s b => ⟨#[.agg (seedC2 kf nf).toArray, .slice p n c, .slice q m dc, .pointer (some ⟨D, 0, none⟩), undef, undef, s 6, .slice p n1 c, .slice p n c, .slice q n2 dc, .slice q m dc, s 11, s 12, s 13, s 14, s 15, s 16, s 17, s 18, s 19, s 20, s 21, s 22, s 23, s 24, s 25, s 26, s 27, s 28, s 29, s 30, s 31, s 32, s 33, s 34, s 35, s 36, s 37, s 38, s 39, s 40, s 41], []⟩) (fun d s b w => (Below w2.heap.size w2 w) ∧ (d 0 = true → s 11 = .pointer (some ⟨D, 0, none⟩)) ∧ (d 1 = true → s 12 = .agg (nums .u8 kf 32).toArray) ∧ (d 2 = true → s 13 = .pointer (some ⟨D, 32, none⟩)) ∧ (d 3 = true → s 14 = .agg (nums .u8 nf 12).toArray) ∧ (d 4 = true → s 15 = .agg (nums .u8 K_f 32).toArray) ∧ (d 5 = true → s 16 = .pointer (some ⟨D, 0, none⟩)) ∧ (d 6 = true → s 17 = .agg (nums .u8 kf 32).toArray) ∧ (d 7 = true → s 18 = .pointer (some ⟨D, 32, none⟩)) ∧ (d 8 = true → s 19 = .agg (nums .u8 nf 12).toArray) ∧ (d 9 = true → s 20 = .agg (nums .u8 K_f 32).toArray) ∧ (d 10 = true → s 21 = .bool true) ∧ (d 11 = true → s 22 = .bool true) ∧ (d 12 = true → s 23 = .pointer (some ⟨D, 0, none⟩)) ∧ (d 13 = true → s 24 = .agg (nums .u8 kf 32).toArray) ∧ (d 14 = true → s 25 = .pointer (some ⟨D, 32, none⟩)) ∧ (d 15 = true → s 26 = .agg (nums .u8 nf 12).toArray) ∧ (d 16 = true → s 27 = .slice p n c) ∧ (d 17 = true → s 28 = .slice q m dc) ∧ (d 18 = true → s 29 = .agg (nums .u8 T_ 16).toArray) ∧ (d 19 = true → s 30 = .pointer (some ⟨D, 0, none⟩)) ∧ (d 20 = true → s 31 = .agg (nums .u8 kf 32).toArray) ∧ (d 21 = true → s 32 = .pointer (some ⟨D, 32, none⟩)) ∧ (d 22 = true → s 33 = .agg (nums .u8 nf 12).toArray) ∧ (d 23 = true → s 34 = .slice p n c) ∧ (d 24 = true → s 35 = .slice q m dc) ∧ (d 25 = true → s 36 = .agg (nums .u8 T_ 16).toArray) ∧ (d 26 = true → s 37 = .bool true) ∧ (d 27 = true → s 38 = .bool true) ∧ (d 28 = true → s 39 = .bool true) ∧ (d 29 = true → s 40 = .bool true) ∧ (d 30 = true → s 41 = .bool true) ∧ (d 31 = true → s 6 = .bool true)) rfl ?h0y1 (?sty1 : StepsF _ _ _ _ 32 _ _ [0, 1, 2, 3, 4, 5, 6, 7, 8, 9, 10, 11, 12, 13, 14, 15, 16, 17, 18, 19, 20, 21, 22, 23, 24, 25, 26, 27, 28, 29, 30, 31]) ?dny1
  case h0y1 => exact ⟨Below.drew (Below.refl _ _), (fun h => nomatch h), (fun h => nomatch h), (fun h => nomatch h), (fun h => nomatch h), (fun h => nomatch h), (fun h => nomatch h), (fun h => nomatch h), (fun h => nomatch h), (fun h => nomatch h), (fun h => nomatch h), (fun h => nomatch h), (fun h => nomatch h), (fun h => nomatch h), (fun h => nomatch h), (fun h => nomatch h), (fun h => nomatch h), (fun h => nomatch h), (fun h => nomatch h), (fun h => nomatch h), (fun h => nomatch h), (fun h => nomatch h), (fun h => nomatch h), (fun h => nomatch h), (fun h => nomatch h), (fun h => nomatch h), (fun h => nomatch h), (fun h => nomatch h), (fun h => nomatch h), (fun h => nomatch h), (fun h => nomatch h), (fun h => nomatch h), (fun h => nomatch h)⟩
  case sty1 =>
    refine StepsF.cons (o := _) rfl (ws := []) (by kernel_rfl) (by decide) (fun d s b w hF hd hw K_ hK => ?_) ?_
    · have hB : Below w2.heap.size w2 w := (p0_ hF.out)
      dsimp only
      go_simp
      exact hK.out (ups s 11 (.pointer (some ⟨D, 0, none⟩))) b _ ⟨hB, (fun _ => rfl), (p2_ hF.out), (p3_ hF.out), (p4_ hF.out), (p5_ hF.out), (p6_ hF.out), (p7_ hF.out), (p8_ hF.out), (p9_ hF.out), (p10_ hF.out), (p11_ hF.out), (p12_ hF.out), (p13_ hF.out), (p14_ hF.out), (p15_ hF.out), (p16_ hF.out), (p17_ hF.out), (p18_ hF.out), (p19_ hF.out), (p20_ hF.out), (p21_ hF.out), (p22_ hF.out), (p23_ hF.out), (p24_ hF.out), (p25_ hF.out), (p26_ hF.out), (p27_ hF.out), (p28_ hF.out), (p29_ hF.out), (p30_ hF.out), (p31_ hF.out), (q32_ hF.out)⟩
    refine StepsF.cons (o := _) rfl (ws := [0]) (by kernel_rfl) (by decide) (fun d s b w hF hd hw K_ hK => ?_) ?_
    · have hB : Below w2.heap.size w2 w := (p0_ hF.out)
      have e0 : s 11 = .pointer (some ⟨D, 0, none⟩) := (p1_ hF.out) (hw 0 (by decide))
      refine step_load (by simp [Region.wanted]) 22 _ rfl D 0 e0 (nums .u8 kf 32) _ (seed2_key (HD.out.later hB)).cell Tryd.underlying22 rfl (by kernel_rfl) ?_
      exact hK.out (ups s 12 (.agg (nums .u8 kf 32).toArray)) b _ ⟨hB, (p1_ hF.out), (fun _ => rfl), (p3_ hF.out), (p4_ hF.out), (p5_ hF.out), (p6_ hF.out), (p7_ hF.out), (p8_ hF.out), (p9_ hF.out), (p10_ hF.out), (p11_ hF.out), (p12_ hF.out), (p13_ hF.out), (p14_ hF.out), (p15_ hF.out), (p16_ hF.out), (p17_ hF.out), (p18_ hF.out), (p19_ hF.out), (p20_ hF.out), (p21_ hF.out), (p22_ hF.out), (p23_ hF.out), (p24_ hF.out), (p25_ hF.out), (p26_ hF.out), (p27_ hF.out), (p28_ hF.out), (p29_ hF.out), (p30_ hF.out), (p31_ hF.out), (q32_ hF.out)⟩
    refine StepsF.cons (o := _) rfl (ws := []) (by kernel_rfl) (by decide) (fun d s b w hF hd hw K_ hK => ?_) ?_
    · have hB : Below w2.heap.size w2 w := (p0_ hF.out)
      dsimp only
      go_simp
      exact hK.out (ups s 13 (.pointer (some ⟨D, 32, none⟩))) b _ ⟨hB, (p1_ hF.out), (p2_ hF.out), (fun _ => rfl), (p4_ hF.out), (p5_ hF.out), (p6_ hF.out), (p7_ hF.out), (p8_ hF.out), (p9_ hF.out), (p10_ hF.out), (p11_ hF.out), (p12_ hF.out), (p13_ hF.out), (p14_ hF.out), (p15_ hF.out), (p16_ hF.out), (p17_ hF.out), (p18_ hF.out), (p19_ hF.out), (p20_ hF.out), (p21_ hF.out), (p22_ hF.out), (p23_ hF.out), (p24_ hF.out), (p25_ hF.out), (p26_ hF.out), (p27_ hF.out), (p28_ hF.out), (p29_ hF.out), (p30_ hF.out), (p31_ hF.out), (q32_ hF.out)⟩
    refine StepsF.cons (o := _) rfl (ws := [2]) (by kernel_rfl) (by decide) (fun d s b w hF hd hw K_ hK => ?_) ?_
    · have hB : Below w2.heap.size w2 w := (p0_ hF.out)
      have e2 : s 13 = .pointer (some ⟨D, 32, none⟩) := (p3_ hF.out) (hw 2 (by decide))
      refine step_load (by simp [Region.wanted]) 23 _ rfl D 32 e2 (nums .u8 nf 12) _ (seed2_non (HD.out.later hB)).cell Tryd.underlying23 rfl (by kernel_rfl) ?_
      exact hK.out (ups s 14 (.agg (nums .u8 nf 12).toArray)) b _ ⟨hB, (p1_ hF.out), (p2_ hF.out), (p3_ hF.out), (fun _ => rfl), (p5_ hF.out), (p6_ hF.out), (p7_ hF.out), (p8_ hF.out), (p9_ hF.out), (p10_ hF.out), (p11_ hF.out), (p12_ hF.out), (p13_ hF.out), (p14_ hF.out), (p15_ hF.out), (p16_ hF.out), (p17_ hF.out), (p18_ hF.out), (p19_ hF.out), (p20_ hF.out), (p21_ hF.out), (p22_ hF.out), (p23_ hF.out), (p24_ hF.out), (p25_ hF.out), (p26_ hF.out), (p27_ hF.out), (p28_ hF.out), (p29_ hF.out), (p30_ hF.out), (p31_ hF.out), (q32_ hF.out)⟩
    refine StepsF.cons (o := _) rfl (ws := [1, 3]) (by kernel_rfl) (by decide) (fun d s b w hF hd hw K_ hK => ?_) ?_
    · have hB : Below w2.heap.size w2 w := (p0_ hF.out)
      have e1 : s 12 = .agg (nums .u8 kf 32).toArray := (p2_ hF.out) (hw 1 (by decide))
      have e3 : s 14 = .agg (nums .u8 nf 12).toArray := (p4_ hF.out) (hw 3 (by decide))
      dsimp only
      go_simp
      go_at_call 10
      refine (KP.out _ (HG.out.later hB)).mono ?_
      rintro e w1 ⟨rfl, hb⟩
      exact hK.out (ups (ups (ups s 12 (.agg (nums .u8 kf 32).toArray)) 14 (.agg (nums .u8 nf 12).toArray)) 15 (.agg (nums .u8 K_f 32).toArray)) b _ ⟨(Below.go hB hb), (p1_ hF.out), (fun _ => rfl), (p3_ hF.out), (fun _ => rfl), (fun _ => rfl), (p6_ hF.out), (p7_ hF.out), (p8_ hF.out), (p9_ hF.out), (p10_ hF.out), (p11_ hF.out), (p12_ hF.out), (p13_ hF.out), (p14_ hF.out), (p15_ hF.out), (p16_ hF.out), (p17_ hF.out), (p18_ hF.out), (p19_ hF.out), (p20_ hF.out), (p21_ hF.out), (p22_ hF.out), (p23_ hF.out), (p24_ hF.out), (p25_ hF.out), (p26_ hF.out), (p27_ hF.out), (p28_ hF.out), (p29_ hF.out), (p30_ hF.out), (p31_ hF.out), (q32_ hF.out)⟩
    refine StepsF.cons (o := _) rfl (ws := []) (by kernel_rfl) (by decide) (fun d s b w hF hd hw K_ hK => ?_) ?_
    · have hB : Below w2.heap.size w2 w := (p0_ hF.out)
      dsimp only
      go_simp
      exact hK.out (ups s 16 (.pointer (some ⟨D, 0, none⟩))) b _ ⟨hB, (p1_ hF.out), (p2_ hF.out), (p3_ hF.out), (p4_ hF.out), (p5_ hF.out), (fun _ => rfl), (p7_ hF.out), (p8_ hF.out), (p9_ hF.out), (p10_ hF.out), (p11_ hF.out), (p12_ hF.out), (p13_ hF.out), (p14_ hF.out), (p15_ hF.out), (p16_ hF.out), (p17_ hF.out), (p18_ hF.out), (p19_ hF.out), (p20_ hF.out), (p21_ hF.out), (p22_ hF.out), (p23_ hF.out), (p24_ hF.out), (p25_ hF.out), (p26_ hF.out), (p27_ hF.out), (p28_ hF.out), (p29_ hF.out), (p30_ hF.out), (p31_ hF.out), (q32_ hF.out)⟩
    refine StepsF.cons (o := _) rfl (ws := [5]) (by kernel_rfl) (by decide) (fun d s b w hF hd hw K_ hK => ?_) ?_
    · have hB : Below w2.heap.size w2 w := (p0_ hF.out)
      have e5 : s 16 = .pointer (some ⟨D, 0, none⟩) := (p6_ hF.out) (hw 5 (by decide))
      refine step_load (by simp [Region.wanted]) 22 _ rfl D 0 e5 (nums .u8 kf 32) _ (seed2_key (HD.out.later hB)).cell Tryd.underlying22 rfl (by kernel_rfl) ?_
      exact hK.out (ups s 17 (.agg (nums .u8 kf 32).toArray)) b _ ⟨hB, (p1_ hF.out), (p2_ hF.out), (p3_ hF.out), (p4_ hF.out), (p5_ hF.out), (p6_ hF.out), (fun _ => rfl), (p8_ hF.out), (p9_ hF.out), (p10_ hF.out), (p11_ hF.out), (p12_ hF.out), (p13_ hF.out), (p14_ hF.out), (p15_ hF.out), (p16_ hF.out), (p17_ hF.out), (p18_ hF.out), (p19_ hF.out), (p20_ hF.out), (p21_ hF.out), (p22_ hF.out), (p23_ hF.out), (p24_ hF.out), (p25_ hF.out), (p26_ hF.out), (p27_ hF.out), (p28_ hF.out), (p29_ hF.out), (p30_ hF.out), (p31_ hF.out), (q32_ hF.out)⟩
    refine StepsF.cons (o := _) rfl (ws := []) (by kernel_rfl) (by decide) (fun d s b w hF hd hw K_ hK => ?_) ?_
    · have hB : Below w2.heap.size w2 w := (p0_ hF.out)
      dsimp only
      go_simp
      exact hK.out (ups s 18 (.pointer (some ⟨D, 32, none⟩))) b _ ⟨hB, (p1_ hF.out), (p2_ hF.out), (p3_ hF.out), (p4_ hF.out), (p5_ hF.out), (p6_ hF.out), (p7_ hF.out), (fun _ => rfl), (p9_ hF.out), (p10_ hF.out), (p11_ hF.out), (p12_ hF.out), (p13_ hF.out), (p14_ hF.out), (p15_ hF.out), (p16_ hF.out), (p17_ hF.out), (p18_ hF.out), (p19_ hF.out), (p20_ hF.out), (p21_ hF.out), (p22_ hF.out), (p23_ hF.out), (p24_ hF.out), (p25_ hF.out), (p26_ hF.out), (p27_ hF.out), (p28_ hF.out), (p29_ hF.out), (p30_ hF.out), (p31_ hF.out), (q32_ hF.out)⟩
    refine StepsF.cons (o := _) rfl (ws := [7]) (by kernel_rfl) (by decide) (fun d s b w hF hd hw K_ hK => ?_) ?_
    · have hB : Below w2.heap.size w2 w := (p0_ hF.out)
      have e7 : s 18 = .pointer (some ⟨D, 32, none⟩) := (p8_ hF.out) (hw 7 (by decide))
      refine step_load (by simp [Region.wanted]) 23 _ rfl D 32 e7 (nums .u8 nf 12) _ (seed2_non (HD.out.later hB)).cell Tryd.underlying23 rfl (by kernel_rfl) ?_
      exact hK.out (ups s 19 (.agg (nums .u8 nf 12).toArray)) b _ ⟨hB, (p1_ hF.out), (p2_ hF.out), (p3_ hF.out), (p4_ hF.out), (p5_ hF.out), (p6_ hF.out), (p7_ hF.out), (p8_ hF.out), (fun _ => rfl), (p10_ hF.out), (p11_ hF.out), (p12_ hF.out), (p13_ hF.out), (p14_ hF.out), (p15_ hF.out), (p16_ hF.out), (p17_ hF.out), (p18_ hF.out), (p19_ hF.out), (p20_ hF.out), (p21_ hF.out), (p22_ hF.out), (p23_ hF.out), (p24_ hF.out), (p25_ hF.out), (p26_ hF.out), (p27_ hF.out), (p28_ hF.out), (p29_ hF.out), (p30_ hF.out), (p31_ hF.out), (q32_ hF.out)⟩
    refine StepsF.cons (o := _) rfl (ws := [6, 8, 4]) (by kernel_rfl) (by decide) (fun d s b w hF hd hw K_ hK => ?_) ?_
    · have hB : Below w2.heap.size w2 w := (p0_ hF.out)
      have e4 : s 15 = .agg (nums .u8 K_f 32).toArray := (p5_ hF.out) (hw 4 (by decide))
      have e6 : s 17 = .agg (nums .u8 kf 32).toArray := (p7_ hF.out) (hw 6 (by decide))
      have e8 : s 19 = .agg (nums .u8 nf 12).toArray := (p9_ hF.out) (hw 8 (by decide))
      dsimp only
      go_simp
      go_at_call 11
      refine (RK.out _).mono ?_
      rintro e w1 ⟨rfl, hb⟩
      exact hK.out (ups (ups (ups (ups s 15 (.agg (nums .u8 K_f 32).toArray)) 17 (.agg (nums .u8 kf 32).toArray)) 19 (.agg (nums .u8 nf 12).toArray)) 20 (.agg (nums .u8 K_f 32).toArray)) b _ ⟨(Below.go hB hb), (p1_ hF.out), (p2_ hF.out), (p3_ hF.out), (p4_ hF.out), (fun _ => rfl), (p6_ hF.out), (fun _ => rfl), (p8_ hF.out), (fun _ => rfl), (fun _ => rfl), (p11_ hF.out), (p12_ hF.out), (p13_ hF.out), (p14_ hF.out), (p15_ hF.out), (p16_ hF.out), (p17_ hF.out), (p18_ hF.out), (p19_ hF.out), (p20_ hF.out), (p21_ hF.out), (p22_ hF.out), (p23_ hF.out), (p24_ hF.out), (p25_ hF.out), (p26_ hF.out), (p27_ hF.out), (p28_ hF.out), (p29_ hF.out), (p30_ hF.out), (p31_ hF.out), (q32_ hF.out)⟩
    refine StepsF.cons (o := _) rfl (ws := [4, 9]) (by kernel_rfl) (by decide) (fun d s b w hF hd hw K_ hK => ?_) ?_
    · have hB : Below w2.heap.size w2 w := (p0_ hF.out)
      have e4 : s 15 = .agg (nums .u8 K_f 32).toArray := (p5_ hF.out) (hw 4 (by decide))
      have e9 : s 20 = .agg (nums .u8 K_f 32).toArray := (p10_ hF.out) (hw 9 (by decide))
      dsimp only
      have hq := EA.out w
      go_simp
      exact hK.out (ups (ups (ups s 15 (.agg (nums .u8 K_f 32).toArray)) 20 (.agg (nums .u8 K_f 32).toArray)) 21 (.bool true)) b _ ⟨hB, (p1_ hF.out), (p2_ hF.out), (p3_ hF.out), (p4_ hF.out), (fun _ => rfl), (p6_ hF.out), (p7_ hF.out), (p8_ hF.out), (p9_ hF.out), (fun _ => rfl), (fun _ => rfl), (p12_ hF.out), (p13_ hF.out), (p14_ hF.out), (p15_ hF.out), (p16_ hF.out), (p17_ hF.out), (p18_ hF.out), (p19_ hF.out), (p20_ hF.out), (p21_ hF.out), (p22_ hF.out), (p23_ hF.out), (p24_ hF.out), (p25_ hF.out), (p26_ hF.out), (p27_ hF.out), (p28_ hF.out), (p29_ hF.out), (p30_ hF.out), (p31_ hF.out), (q32_ hF.out)⟩
    refine StepsF.cons (o := _) rfl (ws := [10, 9]) (by kernel_rfl) (by decide) (fun d s b w hF hd hw K_ hK => ?_) ?_
    · have hB : Below w2.heap.size w2 w := (p0_ hF.out)
      have e9 : s 20 = .agg (nums .u8 K_f 32).toArray := (p10_ hF.out) (hw 9 (by decide))
      have e10 : s 21 = .bool true := (p11_ hF.out) (hw 10 (by decide))
      dsimp only
      go_simp
      exact hK.out (ups (ups (ups s 20 (.agg (nums .u8 K_f 32).toArray)) 21 (.bool true)) 22 (.bool true)) b _ ⟨hB, (p1_ hF.out), (p2_ hF.out), (p3_ hF.out), (p4_ hF.out), (p5_ hF.out), (p6_ hF.out), (p7_ hF.out), (p8_ hF.out), (p9_ hF.out), (fun _ => rfl), (fun _ => rfl), (fun _ => rfl), (p13_ hF.out), (p14_ hF.out), (p15_ hF.out), (p16_ hF.out), (p17_ hF.out), (p18_ hF.out), (p19_ hF.out), (p20_ hF.out), (p21_ hF.out), (p22_ hF.out), (p23_ hF.out), (p24_ hF.out), (p25_ hF.out), (p26_ hF.out), (p27_ hF.out), (p28_ hF.out), (p29_ hF.out), (p30_ hF.out), (p31_ hF.out), (q32_ hF.out)⟩
    refine StepsF.cons (o := _) rfl (ws := [11]) (by kernel_rfl) (by decide) (fun d s b w hF hd hw K_ hK => ?_) ?_
    · have hB : Below w2.heap.size w2 w := (p0_ hF.out)
      have e11 : s 22 = .bool true := (p12_ hF.out) (hw 11 (by decide))
      dsimp only
      go_simp
      exact hK.out (ups (ups s 22 (.bool true)) 23 (.pointer (some ⟨D, 0, none⟩))) b _ ⟨hB, (p1_ hF.out), (p2_ hF.out), (p3_ hF.out), (p4_ hF.out), (p5_ hF.out), (p6_ hF.out), (p7_ hF.out), (p8_ hF.out), (p9_ hF.out), (p10_ hF.out), (p11_ hF.out), (fun _ => rfl), (fun _ => rfl), (p14_ hF.out), (p15_ hF.out), (p16_ hF.out), (p17_ hF.out), (p18_ hF.out), (p19_ hF.out), (p20_ hF.out), (p21_ hF.out), (p22_ hF.out), (p23_ hF.out), (p24_ hF.out), (p25_ hF.out), (p26_ hF.out), (p27_ hF.out), (p28_ hF.out), (p29_ hF.out), (p30_ hF.out), (p31_ hF.out), (q32_ hF.out)⟩
    refine StepsF.cons (o := _) rfl (ws := [12, 11]) (by kernel_rfl) (by decide) (fun d s b w hF hd hw K_ hK => ?_) ?_
    · have hB : Below w2.heap.size w2 w := (p0_ hF.out)
      have e11 : s 22 = .bool true := (p12_ hF.out) (hw 11 (by decide))
      have e12 : s 23 = .pointer (some ⟨D, 0, none⟩) := (p13_ hF.out) (hw 12 (by decide))
      refine step_load (by simp [Region.wanted, yielded, e11]) 22 _ rfl D 0 e12 (nums .u8 kf 32) _ (seed2_key (HD.out.later hB)).cell Tryd.underlying22 rfl (by kernel_rfl) ?_
      exact hK.out (ups s 24 (.agg (nums .u8 kf 32).toArray)) b _ ⟨hB, (p1_ hF.out), (p2_ hF.out), (p3_ hF.out), (p4_ hF.out), (p5_ hF.out), (p6_ hF.out), (p7_ hF.out), (p8_ hF.out), (p9_ hF.out), (p10_ hF.out), (p11_ hF.out), (p12_ hF.out), (p13_ hF.out), (fun _ => rfl), (p15_ hF.out), (p16_ hF.out), (p17_ hF.out), (p18_ hF.out), (p19_ hF.out), (p20_ hF.out), (p21_ hF.out), (p22_ hF.out), (p23_ hF.out), (p24_ hF.out), (p25_ hF.out), (p26_ hF.out), (p27_ hF.out), (p28_ hF.out), (p29_ hF.out), (p30_ hF.out), (p31_ hF.out), (q32_ hF.out)⟩
    refine StepsF.cons (o := _) rfl (ws := [11]) (by kernel_rfl) (by decide) (fun d s b w hF hd hw K_ hK => ?_) ?_
    · have hB : Below w2.heap.size w2 w := (p0_ hF.out)
      have e11 : s 22 = .bool true := (p12_ hF.out) (hw 11 (by decide))
      dsimp only
      go_simp
      exact hK.out (ups (ups s 22 (.bool true)) 25 (.pointer (some ⟨D, 32, none⟩))) b _ ⟨hB, (p1_ hF.out), (p2_ hF.out), (p3_ hF.out), (p4_ hF.out), (p5_ hF.out), (p6_ hF.out), (p7_ hF.out), (p8_ hF.out), (p9_ hF.out), (p10_ hF.out), (p11_ hF.out), (fun _ => rfl), (p13_ hF.out), (p14_ hF.out), (fun _ => rfl), (p16_ hF.out), (p17_ hF.out), (p18_ hF.out), (p19_ hF.out), (p20_ hF.out), (p21_ hF.out), (p22_ hF.out), (p23_ hF.out), (p24_ hF.out), (p25_ hF.out), (p26_ hF.out), (p27_ hF.out), (p28_ hF.out), (p29_ hF.out), (p30_ hF.out), (p31_ hF.out), (q32_ hF.out)⟩
    refine StepsF.cons (o := _) rfl (ws := [14, 11]) (by kernel_rfl) (by decide) (fun d s b w hF hd hw K_ hK => ?_) ?_
    · have hB : Below w2.heap.size w2 w := (p0_ hF.out)
      have e11 : s 22 = .bool true := (p12_ hF.out) (hw 11 (by decide))
      have e14 : s 25 = .pointer (some ⟨D, 32, none⟩) := (p15_ hF.out) (hw 14 (by decide))
      refine step_load (by simp [Region.wanted, yielded, e11]) 23 _ rfl D 32 e14 (nums .u8 nf 12) _ (seed2_non (HD.out.later hB)).cell Tryd.underlying23 rfl (by kernel_rfl) ?_
      exact hK.out (ups s 26 (.agg (nums .u8 nf 12).toArray)) b _ ⟨hB, (p1_ hF.out), (p2_ hF.out), (p3_ hF.out), (p4_ hF.out), (p5_ hF.out), (p6_ hF.out), (p7_ hF.out), (p8_ hF.out), (p9_ hF.out), (p10_ hF.out), (p11_ hF.out), (p12_ hF.out), (p13_ hF.out), (p14_ hF.out), (p15_ hF.out), (fun _ => rfl), (p17_ hF.out), (p18_ hF.out), (p19_ hF.out), (p20_ hF.out), (p21_ hF.out), (p22_ hF.out), (p23_ hF.out), (p24_ hF.out), (p25_ hF.out), (p26_ hF.out), (p27_ hF.out), (p28_ hF.out), (p29_ hF.out), (p30_ hF.out), (p31_ hF.out), (q32_ hF.out)⟩
    refine StepsF.cons (o := _) rfl (ws := [11]) (by kernel_rfl) (by decide) (fun d s b w hF hd hw K_ hK => ?_) ?_
    · have hB : Below w2.heap.size w2 w := (p0_ hF.out)
      have e11 : s 22 = .bool true := (p12_ hF.out) (hw 11 (by decide))
      dsimp only
      go_simp
      exact hK.out (ups (ups s 22 (.bool true)) 27 (.slice p n c)) b _ ⟨hB, (p1_ hF.out), (p2_ hF.out), (p3_ hF.out), (p4_ hF.out), (p5_ hF.out), (p6_ hF.out), (p7_ hF.out), (p8_ hF.out), (p9_ hF.out), (p10_ hF.out), (p11_ hF.out), (fun _ => rfl), (p13_ hF.out), (p14_ hF.out), (p15_ hF.out), (p16_ hF.out), (fun _ => rfl), (p18_ hF.out), (p19_ hF.out), (p20_ hF.out), (p21_ hF.out), (p22_ hF.out), (p23_ hF.out), (p24_ hF.out), (p25_ hF.out), (p26_ hF.out), (p27_ hF.out), (p28_ hF.out), (p29_ hF.out), (p30_ hF.out), (p31_ hF.out), (q32_ hF.out)⟩
    refine StepsF.cons (o := _) rfl (ws := [11]) (by kernel_rfl) (by decide) (fun d s b w hF hd hw K_ hK => ?_) ?_
    · have hB : Below w2.heap.size w2 w := (p0_ hF.out)
      have e11 : s 22 = .bool true := (p12_ hF.out) (hw 11 (by decide))
      dsimp only
      go_simp
      exact hK.out (ups (ups s 22 (.bool true)) 28 (.slice q m dc)) b _ ⟨hB, (p1_ hF.out), (p2_ hF.out), (p3_ hF.out), (p4_ hF.out), (p5_ hF.out), (p6_ hF.out), (p7_ hF.out), (p8_ hF.out), (p9_ hF.out), (p10_ hF.out), (p11_ hF.out), (fun _ => rfl), (p13_ hF.out), (p14_ hF.out), (p15_ hF.out), (p16_ hF.out), (p17_ hF.out), (fun _ => rfl), (p19_ hF.out), (p20_ hF.out), (p21_ hF.out), (p22_ hF.out), (p23_ hF.out), (p24_ hF.out), (p25_ hF.out), (p26_ hF.out), (p27_ hF.out), (p28_ hF.out), (p29_ hF.out), (p30_ hF.out), (p31_ hF.out), (q32_ hF.out)⟩
    refine StepsF.cons (o := _) rfl (ws := [13, 15, 16, 17, 11, 11]) (by kernel_rfl) (by decide) (fun d s b w hF hd hw K_ hK => ?_) ?_
    · have hB : Below w2.heap.size w2 w := (p0_ hF.out)
      have e11 : s 22 = .bool true := (p12_ hF.out) (hw 11 (by decide))
      have e13 : s 24 = .agg (nums .u8 kf 32).toArray := (p14_ hF.out) (hw 13 (by decide))
      have e15 : s 26 = .agg (nums .u8 nf 12).toArray := (p16_ hF.out) (hw 15 (by decide))
      have e16 : s 27 = .slice p n c := (p17_ hF.out) (hw 16 (by decide))
      have e17 : s 28 = .slice q m dc := (p18_ hF.out) (hw 17 (by decide))
      dsimp only
      go_simp
      go_at_call 12
      refine (MC.out _ (HG.out.later hB) (HP.out.later hB) (HQ.out.later hB)).mono ?_
      rintro e w1 ⟨rfl, hb⟩
      exact hK.out (ups (ups (ups (ups (ups (ups s 22 (.bool true)) 24 (.agg (nums .u8 kf 32).toArray)) 26 (.agg (nums .u8 nf 12).toArray)) 27 (.slice p n c)) 28 (.slice q m dc)) 29 (.agg (nums .u8 T_ 16).toArray)) b _ ⟨(Below.go hB hb), (p1_ hF.out), (p2_ hF.out), (p3_ hF.out), (p4_ hF.out), (p5_ hF.out), (p6_ hF.out), (p7_ hF.out), (p8_ hF.out), (p9_ hF.out), (p10_ hF.out), (p11_ hF.out), (fun _ => rfl), (p13_ hF.out), (fun _ => rfl), (p15_ hF.out), (fun _ => rfl), (fun _ => rfl), (fun _ => rfl), (fun _ => rfl), (p20_ hF.out), (p21_ hF.out), (p22_ hF.out), (p23_ hF.out), (p24_ hF.out), (p25_ hF.out), (p26_ hF.out), (p27_ hF.out), (p28_ hF.out), (p29_ hF.out), (p30_ hF.out), (p31_ hF.out), (q32_ hF.out)⟩
    refine StepsF.cons (o := _) rfl (ws := [11]) (by kernel_rfl) (by decide) (fun d s b w hF hd hw K_ hK => ?_) ?_
    · have hB : Below w2.heap.size w2 w := (p0_ hF.out)
      have e11 : s 22 = .bool true := (p12_ hF.out) (hw 11 (by decide))
      dsimp only
      go_simp
      exact hK.out (ups (ups s 22 (.bool true)) 30 (.pointer (some ⟨D, 0, none⟩))) b _ ⟨hB, (p1_ hF.out), (p2_ hF.out), (p3_ hF.out), (p4_ hF.out), (p5_ hF.out), (p6_ hF.out), (p7_ hF.out), (p8_ hF.out), (p9_ hF.out), (p10_ hF.out), (p11_ hF.out), (fun _ => rfl), (p13_ hF.out), (p14_ hF.out), (p15_ hF.out), (p16_ hF.out), (p17_ hF.out), (p18_ hF.out), (p19_ hF.out), (fun _ => rfl), (p21_ hF.out), (p22_ hF.out), (p23_ hF.out), (p24_ hF.out), (p25_ hF.out), (p26_ hF.out), (p27_ hF.out), (p28_ hF.out), (p29_ hF.out), (p30_ hF.out), (p31_ hF.out), (q32_ hF.out)⟩
    refine StepsF.cons (o := _) rfl (ws := [19, 11]) (by kernel_rfl) (by decide) (fun d s b w hF hd hw K_ hK => ?_) ?_
    · have hB : Below w2.heap.size w2 w := (p0_ hF.out)
      have e11 : s 22 = .bool true := (p12_ hF.out) (hw 11 (by decide))
      have e19 : s 30 = .pointer (some ⟨D, 0, none⟩) := (p20_ hF.out) (hw 19 (by decide))
      refine step_load (by simp [Region.wanted, yielded, e11]) 22 _ rfl D 0 e19 (nums .u8 kf 32) _ (seed2_key (HD.out.later hB)).cell Tryd.underlying22 rfl (by kernel_rfl) ?_
      exact hK.out (ups s 31 (.agg (nums .u8 kf 32).toArray)) b _ ⟨hB, (p1_ hF.out), (p2_ hF.out), (p3_ hF.out), (p4_ hF.out), (p5_ hF.out), (p6_ hF.out), (p7_ hF.out), (p8_ hF.out), (p9_ hF.out), (p10_ hF.out), (p11_ hF.out), (p12_ hF.out), (p13_ hF.out), (p14_ hF.out), (p15_ hF.out), (p16_ hF.out), (p17_ hF.out), (p18_ hF.out), (p19_ hF.out), (p20_ hF.out), (fun _ => rfl), (p22_ hF.out), (p23_ hF.out), (p24_ hF.out), (p25_ hF.out), (p26_ hF.out), (p27_ hF.out), (p28_ hF.out), (p29_ hF.out), (p30_ hF.out), (p31_ hF.out), (q32_ hF.out)⟩
    refine StepsF.cons (o := _) rfl (ws := [11]) (by kernel_rfl) (by decide) (fun d s b w hF hd hw K_ hK => ?_) ?_
    · have hB : Below w2.heap.size w2 w := (p0_ hF.out)
      have e11 : s 22 = .bool true := (p12_ hF.out) (hw 11 (by decide))
      dsimp only
      go_simp
      exact hK.out (ups (ups s 22 (.bool true)) 32 (.pointer (some ⟨D, 32, none⟩))) b _ ⟨hB, (p1_ hF.out), (p2_ hF.out), (p3_ hF.out), (p4_ hF.out), (p5_ hF.out), (p6_ hF.out), (p7_ hF.out), (p8_ hF.out), (p9_ hF.out), (p10_ hF.out), (p11_ hF.out), (fun _ => rfl), (p13_ hF.out), (p14_ hF.out), (p15_ hF.out), (p16_ hF.out), (p17_ hF.out), (p18_ hF.out), (p19_ hF.out), (p20_ hF.out), (p21_ hF.out), (fun _ => rfl), (p23_ hF.out), (p24_ hF.out), (p25_ hF.out), (p26_ hF.out), (p27_ hF.out), (p28_ hF.out), (p29_ hF.out), (p30_ hF.out), (p31_ hF.out), (q32_ hF.out)⟩
    refine StepsF.cons (o := _) rfl (ws := [21, 11]) (by kernel_rfl) (by decide) (fun d s b w hF hd hw K_ hK => ?_) ?_
    · have hB : Below w2.heap.size w2 w := (p0_ hF.out)
      have e11 : s 22 = .bool true := (p12_ hF.out) (hw 11 (by decide))
      have e21 : s 32 = .pointer (some ⟨D, 32, none⟩) := (p22_ hF.out) (hw 21 (by decide))
      refine step_load (by simp [Region.wanted, yielded, e11]) 23 _ rfl D 32 e21 (nums .u8 nf 12) _ (seed2_non (HD.out.later hB)).cell Tryd.underlying23 rfl (by kernel_rfl) ?_
      exact hK.out (ups s 33 (.agg (nums .u8 nf 12).toArray)) b _ ⟨hB, (p1_ hF.out), (p2_ hF.out), (p3_ hF.out), (p4_ hF.out), (p5_ hF.out), (p6_ hF.out), (p7_ hF.out), (p8_ hF.out), (p9_ hF.out), (p10_ hF.out), (p11_ hF.out), (p12_ hF.out), (p13_ hF.out), (p14_ hF.out), (p15_ hF.out), (p16_ hF.out), (p17_ hF.out), (p18_ hF.out), (p19_ hF.out), (p20_ hF.out), (p21_ hF.out), (p22_ hF.out), (fun _ => rfl), (p24_ hF.out), (p25_ hF.out), (p26_ hF.out), (p27_ hF.out), (p28_ hF.out), (p29_ hF.out), (p30_ hF.out), (p31_ hF.out), (q32_ hF.out)⟩
    refine StepsF.cons (o := _) rfl (ws := [11]) (by kernel_rfl) (by decide) (fun d s b w hF hd hw K_ hK => ?_) ?_
    · have hB : Below w2.heap.size w2 w := (p0_ hF.out)
      have e11 : s 22 = .bool true := (p12_ hF.out) (hw 11 (by decide))
      dsimp only
      go_simp
      exact hK.out (ups (ups s 22 (.bool true)) 34 (.slice p n c)) b _ ⟨hB, (p1_ hF.out), (p2_ hF.out), (p3_ hF.out), (p4_ hF.out), (p5_ hF.out), (p6_ hF.out), (p7_ hF.out), (p8_ hF.out), (p9_ hF.out), (p10_ hF.out), (p11_ hF.out), (fun _ => rfl), (p13_ hF.out), (p14_ hF.out), (p15_ hF.out), (p16_ hF.out), (p17_ hF.out), (p18_ hF.out), (p19_ hF.out), (p20_ hF.out), (p21_ hF.out), (p22_ hF.out), (p23_ hF.out), (fun _ => rfl), (p25_ hF.out), (p26_ hF.out), (p27_ hF.out), (p28_ hF.out), (p29_ hF.out), (p30_ hF.out), (p31_ hF.out), (q32_ hF.out)⟩
    refine StepsF.cons (o := _) rfl (ws := [11]) (by kernel_rfl) (by decide) (fun d s b w hF hd hw K_ hK => ?_) ?_
    · have hB : Below w2.heap.size w2 w := (p0_ hF.out)
      have e11 : s 22 = .bool true := (p12_ hF.out) (hw 11 (by decide))
      dsimp only
      go_simp
      exact hK.out (ups (ups s 22 (.bool true)) 35 (.slice q m dc)) b _ ⟨hB, (p1_ hF.out), (p2_ hF.out), (p3_ hF.out), (p4_ hF.out), (p5_ hF.out), (p6_ hF.out), (p7_ hF.out), (p8_ hF.out), (p9_ hF.out), (p10_ hF.out), (p11_ hF.out), (fun _ => rfl), (p13_ hF.out), (p14_ hF.out), (p15_ hF.out), (p16_ hF.out), (p17_ hF.out), (p18_ hF.out), (p19_ hF.out), (p20_ hF.out), (p21_ hF.out), (p22_ hF.out), (p23_ hF.out), (p24_ hF.out), (fun _ => rfl), (p26_ hF.out), (p27_ hF.out), (p28_ hF.out), (p29_ hF.out), (p30_ hF.out), (p31_ hF.out), (q32_ hF.out)⟩
    refine StepsF.cons (o := _) rfl (ws := [20, 22, 23, 24, 18, 11]) (by kernel_rfl) (by decide) (fun d s b w hF hd hw K_ hK => ?_) ?_
    · have hB : Below w2.heap.size w2 w := (p0_ hF.out)
      have e11 : s 22 = .bool true := (p12_ hF.out) (hw 11 (by decide))
      have e18 : s 29 = .agg (nums .u8 T_ 16).toArray := (p19_ hF.out) (hw 18 (by decide))
      have e20 : s 31 = .agg (nums .u8 kf 32).toArray := (p21_ hF.out) (hw 20 (by decide))
      have e22 : s 33 = .agg (nums .u8 nf 12).toArray := (p23_ hF.out) (hw 22 (by decide))
      have e23 : s 34 = .slice p n c := (p24_ hF.out) (hw 23 (by decide))
      have e24 : s 35 = .slice q m dc := (p25_ hF.out) (hw 24 (by decide))
      dsimp only
      go_simp
      go_at_call 13
      refine (RM.out _ (HP.out.later hB) (HQ.out.later hB)).mono ?_
      rintro e w1 ⟨rfl, hb⟩
      exact hK.out (ups (ups (ups (ups (ups (ups (ups s 22 (.bool true)) 29 (.agg (nums .u8 T_ 16).toArray)) 31 (.agg (nums .u8 kf 32).toArray)) 33 (.agg (nums .u8 nf 12).toArray)) 34 (.slice p n c)) 35 (.slice q m dc)) 36 (.agg (nums .u8 T_ 16).toArray)) b _ ⟨(Below.go hB hb), (p1_ hF.out), (p2_ hF.out), (p3_ hF.out), (p4_ hF.out), (p5_ hF.out), (p6_ hF.out), (p7_ hF.out), (p8_ hF.out), (p9_ hF.out), (p10_ hF.out), (p11_ hF.out), (fun _ => rfl), (p13_ hF.out), (p14_ hF.out), (p15_ hF.out), (p16_ hF.out), (p17_ hF.out), (p18_ hF.out), (fun _ => rfl), (p20_ hF.out), (fun _ => rfl), (p22_ hF.out), (fun _ => rfl), (fun _ => rfl), (fun _ => rfl), (fun _ => rfl), (p27_ hF.out), (p28_ hF.out), (p29_ hF.out), (p30_ hF.out), (p31_ hF.out), (q32_ hF.out)⟩
    refine StepsF.cons (o := _) rfl (ws := [18, 25, 11]) (by kernel_rfl) (by decide) (fun d s b w hF hd hw K_ hK => ?_) ?_
    · have hB : Below w2.heap.size w2 w := (p0_ hF.out)
      have e11 : s 22 = .bool true := (p12_ hF.out) (hw 11 (by decide))
      have e18 : s 29 = .agg (nums .u8 T_ 16).toArray := (p19_ hF.out) (hw 18 (by decide))
      have e25 : s 36 = .agg (nums .u8 T_ 16).toArray := (p26_ hF.out) (hw 25 (by decide))
      dsimp only
      have hq := EB.out w
      go_simp
      exact hK.out (ups (ups (ups (ups s 22 (.bool true)) 29 (.agg (nums .u8 T_ 16).toArray)) 36 (.agg (nums .u8 T_ 16).toArray)) 37 (.bool true)) b _ ⟨hB, (p1_ hF.out), (p2_ hF.out), (p3_ hF.out), (p4_ hF.out), (p5_ hF.out), (p6_ hF.out), (p7_ hF.out), (p8_ hF.out), (p9_ hF.out), (p10_ hF.out), (p11_ hF.out), (fun _ => rfl), (p13_ hF.out), (p14_ hF.out), (p15_ hF.out), (p16_ hF.out), (p17_ hF.out), (p18_ hF.out), (fun _ => rfl), (p20_ hF.out), (p21_ hF.out), (p22_ hF.out), (p23_ hF.out), (p24_ hF.out), (p25_ hF.out), (fun _ => rfl), (fun _ => rfl), (p28_ hF.out), (p29_ hF.out), (p30_ hF.out), (p31_ hF.out), (q32_ hF.out)⟩
    refine StepsF.cons (o := _) rfl (ws := [11, 26]) (by kernel_rfl) (by decide) (fun d s b w hF hd hw K_ hK => ?_) ?_
    · have hB : Below w2.heap.size w2 w := (p0_ hF.out)
      have e11 : s 22 = .bool true := (p12_ hF.out) (hw 11 (by decide))
      have e26 : s 37 = .bool true := (p27_ hF.out) (hw 26 (by decide))
      dsimp only
      go_simp
      exact hK.out (ups (ups (ups s 22 (.bool true)) 37 (.bool true)) 38 (.bool true)) b _ ⟨hB, (p1_ hF.out), (p2_ hF.out), (p3_ hF.out), (p4_ hF.out), (p5_ hF.out), (p6_ hF.out), (p7_ hF.out), (p8_ hF.out), (p9_ hF.out), (p10_ hF.out), (p11_ hF.out), (fun _ => rfl), (p13_ hF.out), (p14_ hF.out), (p15_ hF.out), (p16_ hF.out), (p17_ hF.out), (p18_ hF.out), (p19_ hF.out), (p20_ hF.out), (p21_ hF.out), (p22_ hF.out), (p23_ hF.out), (p24_ hF.out), (p25_ hF.out), (p26_ hF.out), (fun _ => rfl), (fun _ => rfl), (p29_ hF.out), (p30_ hF.out), (p31_ hF.out), (q32_ hF.out)⟩
    refine StepsF.cons (o := _) rfl (ws := [27, 25]) (by kernel_rfl) (by decide) (fun d s b w hF hd hw K_ hK => ?_) ?_
    · have hB : Below w2.heap.size w2 w := (p0_ hF.out)
      have e25 : s 36 = .agg (nums .u8 T_ 16).toArray := (p26_ hF.out) (hw 25 (by decide))
      have e27 : s 38 = .bool true := (p28_ hF.out) (hw 27 (by decide))
      dsimp only
      go_simp
      exact hK.out (ups (ups (ups s 36 (.agg (nums .u8 T_ 16).toArray)) 38 (.bool true)) 39 (.bool true)) b _ ⟨hB, (p1_ hF.out), (p2_ hF.out), (p3_ hF.out), (p4_ hF.out), (p5_ hF.out), (p6_ hF.out), (p7_ hF.out), (p8_ hF.out), (p9_ hF.out), (p10_ hF.out), (p11_ hF.out), (p12_ hF.out), (p13_ hF.out), (p14_ hF.out), (p15_ hF.out), (p16_ hF.out), (p17_ hF.out), (p18_ hF.out), (p19_ hF.out), (p20_ hF.out), (p21_ hF.out), (p22_ hF.out), (p23_ hF.out), (p24_ hF.out), (p25_ hF.out), (fun _ => rfl), (p27_ hF.out), (fun _ => rfl), (fun _ => rfl), (p30_ hF.out), (p31_ hF.out), (q32_ hF.out)⟩
    refine StepsF.cons (o := _) rfl (ws := [28, 28]) (by kernel_rfl) (by decide) (fun d s b w hF hd hw K_ hK => ?_) ?_
    · have hB : Below w2.heap.size w2 w := (p0_ hF.out)
      have e28 : s 39 = .bool true := (p29_ hF.out) (hw 28 (by decide))
      dsimp only
      go_simp
      go_at_call 14
      refine (works8_any _ (HG.out.later hB)).mono ?_
      rintro e w1 ⟨rfl, hb⟩
      exact hK.out (ups (ups s 39 (.bool true)) 40 (.bool true)) b _ ⟨(Below.go hB hb), (p1_ hF.out), (p2_ hF.out), (p3_ hF.out), (p4_ hF.out), (p5_ hF.out), (p6_ hF.out), (p7_ hF.out), (p8_ hF.out), (p9_ hF.out), (p10_ hF.out), (p11_ hF.out), (p12_ hF.out), (p13_ hF.out), (p14_ hF.out), (p15_ hF.out), (p16_ hF.out), (p17_ hF.out), (p18_ hF.out), (p19_ hF.out), (p20_ hF.out), (p21_ hF.out), (p22_ hF.out), (p23_ hF.out), (p24_ hF.out), (p25_ hF.out), (p26_ hF.out), (p27_ hF.out), (p28_ hF.out), (fun _ => rfl), (fun _ => rfl), (p31_ hF.out), (q32_ hF.out)⟩
    refine StepsF.cons (o := _) rfl (ws := [28, 29]) (by kernel_rfl) (by decide) (fun d s b w hF hd hw K_ hK => ?_) ?_
    · have hB : Below w2.heap.size w2 w := (p0_ hF.out)
      have e28 : s 39 = .bool true := (p29_ hF.out) (hw 28 (by decide))
      have e29 : s 40 = .bool true := (p30_ hF.out) (hw 29 (by decide))
      dsimp only
      go_simp
      exact hK.out (ups (ups (ups s 39 (.bool true)) 40 (.bool true)) 41 (.bool true)) b _ ⟨hB, (p1_ hF.out), (p2_ hF.out), (p3_ hF.out), (p4_ hF.out), (p5_ hF.out), (p6_ hF.out), (p7_ hF.out), (p8_ hF.out), (p9_ hF.out), (p10_ hF.out), (p11_ hF.out), (p12_ hF.out), (p13_ hF.out), (p14_ hF.out), (p15_ hF.out), (p16_ hF.out), (p17_ hF.out), (p18_ hF.out), (p19_ hF.out), (p20_ hF.out), (p21_ hF.out), (p22_ hF.out), (p23_ hF.out), (p24_ hF.out), (p25_ hF.out), (p26_ hF.out), (p27_ hF.out), (p28_ hF.out), (fun _ => rfl), (fun _ => rfl), (fun _ => rfl), (q32_ hF.out)⟩
    refine StepsF.cons (o := _) rfl (ws := [30, 29, 0, 1, 2, 3, 4, 5, 6, 7, 8, 9, 10, 11, 12, 13, 14, 15, 16, 17, 18, 19, 20, 21, 22, 23, 24, 25, 26, 27, 28, 29, 30]) (by kernel_rfl) (by decide) (fun d s b w hF hd hw K_ hK => ?_) ?_
    · have hB : Below w2.heap.size w2 w := (p0_ hF.out)
      have e0 : s 11 = .pointer (some ⟨D, 0, none⟩) := (p1_ hF.out) (hw 0 (by decide))
      have e1 : s 12 = .agg (nums .u8 kf 32).toArray := (p2_ hF.out) (hw 1 (by decide))
      have e2 : s 13 = .pointer (some ⟨D, 32, none⟩) := (p3_ hF.out) (hw 2 (by decide))
      have e3 : s 14 = .agg (nums .u8 nf 12).toArray := (p4_ hF.out) (hw 3 (by decide))
      have e4 : s 15 = .agg (nums .u8 K_f 32).toArray := (p5_ hF.out) (hw 4 (by decide))
      have e5 : s 16 = .pointer (some ⟨D, 0, none⟩) := (p6_ hF.out) (hw 5 (by decide))
      have e6 : s 17 = .agg (nums .u8 kf 32).toArray := (p7_ hF.out) (hw 6 (by decide))
      have e7 : s 18 = .pointer (some ⟨D, 32, none⟩) := (p8_ hF.out) (hw 7 (by decide))
      have e8 : s 19 = .agg (nums .u8 nf 12).toArray := (p9_ hF.out) (hw 8 (by decide))
      have e9 : s 20 = .agg (nums .u8 K_f 32).toArray := (p10_ hF.out) (hw 9 (by decide))
      have e10 : s 21 = .bool true := (p11_ hF.out) (hw 10 (by decide))
      have e11 : s 22 = .bool true := (p12_ hF.out) (hw 11 (by decide))
      have e12 : s 23 = .pointer (some ⟨D, 0, none⟩) := (p13_ hF.out) (hw 12 (by decide))
      have e13 : s 24 = .agg (nums .u8 kf 32).toArray := (p14_ hF.out) (hw 13 (by decide))
      have e14 : s 25 = .pointer (some ⟨D, 32, none⟩) := (p15_ hF.out) (hw 14 (by decide))
      have e15 : s 26 = .agg (nums .u8 nf 12).toArray := (p16_ hF.out) (hw 15 (by decide))
      have e16 : s 27 = .slice p n c := (p17_ hF.out) (hw 16 (by decide))
      have e17 : s 28 = .slice q m dc := (p18_ hF.out) (hw 17 (by decide))
      have e18 : s 29 = .agg (nums .u8 T_ 16).toArray := (p19_ hF.out) (hw 18 (by decide))
      have e19 : s 30 = .pointer (some ⟨D, 0, none⟩) := (p20_ hF.out) (hw 19 (by decide))
      have e20 : s 31 = .agg (nums .u8 kf 32).toArray := (p21_ hF.out) (hw 20 (by decide))
      have e21 : s 32 = .pointer (some ⟨D, 32, none⟩) := (p22_ hF.out) (hw 21 (by decide))
      have e22 : s 33 = .agg (nums .u8 nf 12).toArray := (p23_ hF.out) (hw 22 (by decide))
      have e23 : s 34 = .slice p n c := (p24_ hF.out) (hw 23 (by decide))
      have e24 : s 35 = .slice q m dc := (p25_ hF.out) (hw 24 (by decide))
      have e25 : s 36 = .agg (nums .u8 T_ 16).toArray := (p26_ hF.out) (hw 25 (by decide))
      have e26 : s 37 = .bool true := (p27_ hF.out) (hw 26 (by decide))
      have e27 : s 38 = .bool true := (p28_ hF.out) (hw 27 (by decide))
      have e28 : s 39 = .bool true := (p29_ hF.out) (hw 28 (by decide))
      have e29 : s 40 = .bool true := (p30_ hF.out) (hw 29 (by decide))
      have e30 : s 41 = .bool true := (p31_ hF.out) (hw 30 (by decide))
      dsimp only
      go_simp
      exact hK.out (ups (ups (ups (ups (ups (ups (ups (ups (ups (ups (ups (ups (ups (ups (ups (ups (ups (ups (ups (ups (ups (ups (ups (ups (ups (ups (ups (ups (ups (ups (ups (ups s 11 (.pointer (some ⟨D, 0, none⟩))) 12 (.agg (nums .u8 kf 32).toArray)) 13 (.pointer (some ⟨D, 32, none⟩))) 14 (.agg (nums .u8 nf 12).toArray)) 15 (.agg (nums .u8 K_f 32).toArray)) 16 (.pointer (some ⟨D, 0, none⟩))) 17 (.agg (nums .u8 kf 32).toArray)) 18 (.pointer (some ⟨D, 32, none⟩))) 19 (.agg (nums .u8 nf 12).toArray)) 20 (.agg (nums .u8 K_f 32).toArray)) 21 (.bool true)) 22 (.bool true)) 23 (.pointer (some ⟨D, 0, none⟩))) 24 (.agg (nums .u8 kf 32).toArray)) 25 (.pointer (some ⟨D, 32, none⟩))) 26 (.agg (nums .u8 nf 12).toArray)) 27 (.slice p n c)) 28 (.slice q m dc)) 29 (.agg (nums .u8 T_ 16).toArray)) 30 (.pointer (some ⟨D, 0, none⟩))) 31 (.agg (nums .u8 kf 32).toArray)) 32 (.pointer (some ⟨D, 32, none⟩))) 33 (.agg (nums .u8 nf 12).toArray)) 34 (.slice p n c)) 35 (.slice q m dc)) 36 (.agg (nums .u8 T_ 16).toArray)) 37 (.bool true)) 38 (.bool true)) 39 (.bool true)) 40 (.bool true)) 41 (.bool true)) 6 (.bool true)) b _ ⟨hB, (fun _ => rfl), (fun _ => rfl), (fun _ => rfl), (fun _ => rfl), (fun _ => rfl), (fun _ => rfl), (fun _ => rfl), (fun _ => rfl), (fun _ => rfl), (fun _ => rfl), (fun _ => rfl), (fun _ => rfl), (fun _ => rfl), (fun _ => rfl), (fun _ => rfl), (fun _ => rfl), (fun _ => rfl), (fun _ => rfl), (fun _ => rfl), (fun _ => rfl), (fun _ => rfl), (fun _ => rfl), (fun _ => rfl), (fun _ => rfl), (fun _ => rfl), (fun _ => rfl), (fun _ => rfl), (fun _ => rfl), (fun _ => rfl), (fun _ => rfl), (fun _ => rfl), (fun _ => rfl)⟩
    exact StepsF.nil
  intro d s b y1 hF hall
  replace hF := Lib.hid hF
  have hB : Below w2.heap.size w2 y1 := (p0_ hF.out)
  try dsimp only
  have e0 : s 11 = .pointer (some ⟨D, 0, none⟩) := (p1_ hF.out) (hall 0 (by decide))
  have e1 : s 12 = .agg (nums .u8 kf 32).toArray := (p2_ hF.out) (hall 1 (by decide))
  have e2 : s 13 = .pointer (some ⟨D, 32, none⟩) := (p3_ hF.out) (hall 2 (by decide))
  have e3 : s 14 = .agg (nums .u8 nf 12).toArray := (p4_ hF.out) (hall 3 (by decide))
  have e4 : s 15 = .agg (nums .u8 K_f 32).toArray := (p5_ hF.out) (hall 4 (by decide))
  have e5 : s 16 = .pointer (some ⟨D, 0, none⟩) := (p6_ hF.out) (hall 5 (by decide))
  have e6 : s 17 = .agg (nums .u8 kf 32).toArray := (p7_ hF.out) (hall 6 (by decide))
  have e7 : s 18 = .pointer (some ⟨D, 32, none⟩) := (p8_ hF.out) (hall 7 (by decide))
  have e8 : s 19 = .agg (nums .u8 nf 12).toArray := (p9_ hF.out) (hall 8 (by decide))
  have e9 : s 20 = .agg (nums .u8 K_f 32).toArray := (p10_ hF.out) (hall 9 (by decide))
  have e10 : s 21 = .bool true := (p11_ hF.out) (hall 10 (by decide))
  have e11 : s 22 = .bool true := (p12_ hF.out) (hall 11 (by decide))
  have e12 : s 23 = .pointer (some ⟨D, 0, none⟩) := (p13_ hF.out) (hall 12 (by decide))
  have e13 : s 24 = .agg (nums .u8 kf 32).toArray := (p14_ hF.out) (hall 13 (by decide))
  have e14 : s 25 = .pointer (some ⟨D, 32, none⟩) := (p15_ hF.out) (hall 14 (by decide))
  have e15 : s 26 = .agg (nums .u8 nf 12).toArray := (p16_ hF.out) (hall 15 (by decide))
  have e16 : s 27 = .slice p n c := (p17_ hF.out) (hall 16 (by decide))
  have e17 : s 28 = .slice q m dc := (p18_ hF.out) (hall 17 (by decide))
  have e18 : s 29 = .agg (nums .u8 T_ 16).toArray := (p19_ hF.out) (hall 18 (by decide))
  have e19 : s 30 = .pointer (some ⟨D, 0, none⟩) := (p20_ hF.out) (hall 19 (by decide))
  have e20 : s 31 = .agg (nums .u8 kf 32).toArray := (p21_ hF.out) (hall 20 (by decide))
  have e21 : s 32 = .pointer (some ⟨D, 32, none⟩) := (p22_ hF.out) (hall 21 (by decide))
  have e22 : s 33 = .agg (nums .u8 nf 12).toArray := (p23_ hF.out) (hall 22 (by decide))
  have e23 : s 34 = .slice p n c := (p24_ hF.out) (hall 23 (by decide))
  have e24 : s 35 = .slice q m dc := (p25_ hF.out) (hall 24 (by decide))
  have e25 : s 36 = .agg (nums .u8 T_ 16).toArray := (p26_ hF.out) (hall 25 (by decide))
  have e26 : s 37 = .bool true := (p27_ hF.out) (hall 26 (by decide))
  have e27 : s 38 = .bool true := (p28_ hF.out) (hall 27 (by decide))
  have e28 : s 39 = .bool true := (p29_ hF.out) (hall 28 (by decide))
  have e29 : s 40 = .bool true := (p30_ hF.out) (hall 29 (by decide))
  have e30 : s 41 = .bool true := (p31_ hF.out) (hall 30 (by decide))
  have e31 : s 6 = .bool true := (q32_ hF.out) (hall 31 (by decide))
  rw [e0, e1, e2, e3, e4, e5, e6, e7, e8, e9, e10, e11, e12, e13, e14, e15, e16, e17, e18, e19, e20, e21, e22, e23, e24, e25, e26, e27, e28, e29, e30, e31]
  clear hall hF e0 e1 e2 e3 e4 e5 e6 e7 e8 e9 e10 e11 e12 e13 e14 e15 e16 e17 e18 e19 e20 e21 e22 e23 e24 e25 e26 e27 e28 e29 e30 e31
  clear d s b
  go_wp2_with (fail)
  go_ret
  exact ⟨rfl, Below.go hB0 hB⟩
end Go.Proofs.YtjkeaiihjbcfgaaDoor
