/- AeadSeals, AeadBack: the walks. -/
import Derived.Test.YtjkeaiihjbcfgaaDoorYEM
import Derived.Lib.Hide
import Derived.Deep.Onto
import Derived.Laws.OwnMore
namespace Go.Proofs.YtjkeaiihjbcfgaaDoor
set_option linter.unusedVariables false
set_option maxRecDepth 2000
set_option linter.unusedSimpArgs false
open Go.RowKit
attribute [local go_sem] nums_length

set_option maxHeartbeats 4000000 in
theorem Seals_law (kf nf f g : Nat → Int) (p q : Option Addr) (n1 n2 c dc n m : Nat) (e1 : min (n1 : Int) 250 = (n : Int)) (e2 : min (n2 : Int) 250 = (m : Int)) (hk : ∀ i, i < 32 → inB (kf i)) (hn : ∀ i, i < 12 → inB (nf i)) (hf : ∀ i, i < n → inB (f i)) (hg : ∀ i, i < m → inB (g i)) (hc1 : n1 ≤ c) (hd1 : n2 ≤ dc) (hc : c ≤ 9223372036854775807) (hd : dc ≤ 9223372036854775807) (w : World) (hG : Has 0 0 GL w) (hp : Byt w p n f) (hq : Byt w q m g) :
    Calls Tryd.prog 4 #[(.agg (seedC2 kf nf).toArray), .slice p n1 c, .slice q n2 dc] w fun e w' => e = .returned (.bool true) ∧ Below w.heap.size w w' := by
  have FW1 := Lib.hid (fun w => few8_any p n1 c n e1 (by omega) w)
  have FW2 := Lib.hid (fun w => few8_any q n2 dc m e2 (by omega) w)
  have N25 := Lib.hid (show n ≤ 250 by omega); have M25 := Lib.hid (show m ≤ 250 by omega)
  have NC := Lib.hid (show n ≤ c by omega); have MD := Lib.hid (show m ≤ dc by omega)
  have HC := Lib.hid hc; have HD_ := Lib.hid hd; have FK := Lib.hid hk; have FN := Lib.hid hn; have HF := Lib.hid hf; have HGF := Lib.hid hg
  have HG0 := Lib.hid hG; have HP0 := Lib.hid hp; have HQ0 := Lib.hid hq
  have SP := Lib.hid (fun w hG hp hq => Seal_any kf nf f g p q n m c dc hk hn hf hg (by omega) (by omega) (by omega) (by omega) hc hd w hG hp hq)
  have RS := Lib.hid (fun w hp hq => RSeal_any kf nf f g p q n m c dc hk hn hf hg (by omega) (by omega) w hp hq)
  generalize sealF kf nf f n g m = sg at SP RS
  clear e1 e2 hk hn hf hg hc1 hd1 hc hd hG hp hq
  go_enter Tryd.func4, Tryd.ntmps4
  go_upto_region 1 with fail
  obtain ⟨W0, hW⟩ : ∃ W0, W0 = (w.alloc (.cells (seedC2 kf nf).toArray 25)) := ⟨_, rfl⟩
  have hB0 : Below w.heap.size w W0 := hW ▸ (Below.al (Below.refl _ _))
  have HDo : Hid (Own w.heap.size (seedC2 kf nf) W0) := Lib.hid (hW ▸ (show Own w.heap.size (seedC2 kf nf) (w.alloc (.cells (seedC2 kf nf).toArray 25)) from Own.newAt (by simp)))
  rw [← hW]
  clear hW
  obtain ⟨D, eD⟩ : ∃ X, X = w.heap.size := ⟨_, rfl⟩
  rw [← eD] at HDo ⊢
  have Dw : w.heap.size ≤ D := by omega
  clear eD
  have HD := Lib.hid HDo.out.has
  have HG := Lib.hid (HG0.out.later hB0); have HP := Lib.hid (HP0.out.later hB0); have HQ := Lib.hid (HQ0.out.later hB0)
  clear HG0 HP0 HQ0 HDo
  go_wp2_with (fail)
  go_at_call 9
  refine (FW1.out _).mono ?_
  rintro e w1 ⟨rfl, hb⟩
  have HDk := Lib.hid (HD.out.later hb)
  have HGk := Lib.hid (HG.out.later hb)
  have HPk := Lib.hid (HP.out.later hb)
  have HQk := Lib.hid (HQ.out.later hb)
  clear HD HG HP HQ
  have HD := HDk
  clear HDk
  have HG := HGk
  clear HGk
  have HP := HPk
  clear HPk
  have HQ := HQk
  clear HQk
  have hB1 := Below.go hB0 hb
  clear hB0 hb
  have hB0 := hB1
  clear hB1
  go_wp2_with (fail)
  go_at_call 9
  refine (FW2.out _).mono ?_
  rintro e w2 ⟨rfl, hb⟩
  have HDk := Lib.hid (HD.out.later hb)
  have HGk := Lib.hid (HG.out.later hb)
  have HPk := Lib.hid (HP.out.later hb)
  have HQk := Lib.hid (HQ.out.later hb)
  clear HD HG HP HQ
  have HD := HDk
  clear HDk
  have HG := HGk
  clear HGk
  have HP := HPk
  clear HPk
  have HQ := HQk
  clear HQk
  have hB1 := Below.go hB0 hb
  clear hB0 hb
  have hB0 := hB1
  clear hB1
  clear FW1 FW2
  go_upto_region 3 with (at_builtin; refine wpList_append_b rfl _ _ rfl w.heap.size _ 0 [] rfl (World.ownsRow_lit w2 #[] 0 hB0.size (by decide) rfl) q m dc g rfl (HQ.out.later (Below.al (Below.refl _ _))) (by have := M25.out; omega) (Below.al hB0).size ?_; intro v' w3 hrow hgr; obtain ⟨q3, c3, rfl, _⟩ := row_form hrow; rw [Nat.zero_add, List.nil_append] at hrow; have hb : Below w2.heap.size w2 w3 := (Below.al (o := (.cells #[] 5)) (Below.refl w2.heap.size w2)).grown hgr (by simp) (fun k hk => by cases hk; exact Nat.le_refl _))
  have HWAS := Lib.hid (byt_row hrow).2
  clear hrow hgr
  have HDk := Lib.hid (HD.out.later hb)
  have HGk := Lib.hid (HG.out.later hb)
  have HPk := Lib.hid (HP.out.later hb)
  have HQk := Lib.hid (HQ.out.later hb)
  clear HD HG HP HQ
  have HD := HDk
  clear HDk
  have HG := HGk
  clear HGk
  have HP := HPk
  clear HPk
  have HQ := HQk
  clear HQk
  have hB1 := Below.go hB0 hb
  clear hB0 hb
  have hB0 := hB1
  clear hB1
  refine wp_region_lit ?_
  refine wpList_val rfl (.pointer (some ⟨D, 0, none⟩)) (by kernel_rfl) ?_
  refine wpList_load_mid rfl 22 _ rfl D 0 rfl (nums .u8 kf 32) _ (seed2_key HD.out).cell Tryd.underlying22 rfl (by kernel_rfl) ?_
  refine wpList_val rfl (.pointer (some ⟨D, 32, none⟩)) (by kernel_rfl) ?_
  refine wpList_load_mid rfl 23 _ rfl D 32 rfl (nums .u8 nf 12) _ (seed2_non HD.out).cell Tryd.underlying23 rfl (by kernel_rfl) ?_
  go_wp2_with (fail)
  go_at_call 15
  refine (SP.out _ HG.out HP.out HQ.out).mono ?_
  rintro e w4 ⟨v4, rfl, hrow, hb⟩
  obtain ⟨q4, c4, rfl, _⟩ := row_form hrow
  have BA := Lib.hid (byt_row hrow).2
  clear hrow
  have HDk := Lib.hid (HD.out.later hb)
  have HGk := Lib.hid (HG.out.later hb)
  have HPk := Lib.hid (HP.out.later hb)
  have HQk := Lib.hid (HQ.out.later hb)
  have HWASk := Lib.hid (HWAS.out.later hb)
  clear HD HG HP HQ HWAS
  have HD := HDk
  clear HDk
  have HG := HGk
  clear HGk
  have HP := HPk
  clear HPk
  have HQ := HQk
  clear HQk
  have HWAS := HWASk
  clear HWASk
  have hB1 := Below.go hB0 hb
  clear hB0 hb
  have hB0 := hB1
  clear hB1
  go_upto_region 4 with fail
  refine wp_region_lit ?_
  refine wpList_val rfl (.pointer (some ⟨D, 0, none⟩)) (by kernel_rfl) ?_
  refine wpList_load_mid rfl 22 _ rfl D 0 rfl (nums .u8 kf 32) _ (seed2_key HD.out).cell Tryd.underlying22 rfl (by kernel_rfl) ?_
  refine wpList_val rfl (.pointer (some ⟨D, 32, none⟩)) (by kernel_rfl) ?_
  refine wpList_load_mid rfl 23 _ rfl D 32 rfl (nums .u8 nf 12) _ (seed2_non HD.out).cell Tryd.underlying23 rfl (by kernel_rfl) ?_
  go_wp2_with (fail)
  go_at_call 16
  refine (RS.out _ HP.out HQ.out).mono ?_
  rintro e w5 ⟨v5, rfl, hrow, hb⟩
  obtain ⟨q5, c5, rfl, _⟩ := row_form hrow
  have BB := Lib.hid (byt_row hrow).2
  clear hrow
  have HDk := Lib.hid (HD.out.later hb)
  have HGk := Lib.hid (HG.out.later hb)
  have HPk := Lib.hid (HP.out.later hb)
  have HQk := Lib.hid (HQ.out.later hb)
  have HWASk := Lib.hid (HWAS.out.later hb)
  have BAk := Lib.hid (BA.out.later hb)
  clear HD HG HP HQ HWAS BA
  have HD := HDk
  clear HDk
  have HG := HGk
  clear HGk
  have HP := HPk
  clear HPk
  have HQ := HQk
  clear HQk
  have HWAS := HWASk
  clear HWASk
  have BA := BAk
  clear BAk
  have hB1 := Below.go hB0 hb
  clear hB0 hb
  have hB0 := hB1
  clear hB1
  go_wp2_with (fail)
  go_at_call 17
  refine (Equal_any q4 q5 (m + 16) c4 c5 sg _ BA.out BB.out).mono ?_
  rintro e w6 ⟨rfl, hb⟩
  have HQk := Lib.hid (HQ.out.later hb)
  have HGk := Lib.hid (HG.out.later hb)
  have HWASk := Lib.hid (HWAS.out.later hb)
  clear HQ HG HWAS
  have HQ := HQk
  clear HQk
  have HG := HGk
  clear HGk
  have HWAS := HWASk
  clear HWASk
  have hB1 := Below.go hB0 hb
  clear hB0 hb
  have hB0 := hB1
  clear hB1
  go_wp2_with (fail)
  go_at_call 17
  refine (Equal_any q _ m dc _ g _ HQ.out HWAS.out).mono ?_
  rintro e w7 ⟨rfl, hb⟩
  have HGk := Lib.hid (HG.out.later hb)
  clear HG
  have HG := HGk
  clear HGk
  have hB1 := Below.go hB0 hb
  clear hB0 hb
  have hB0 := hB1
  clear hB1
  go_wp2_with (fail)
  go_at_call 14
  refine (works8_any _ HG.out).mono ?_
  rintro e w8 ⟨rfl, hb⟩
  have hB1 := Below.go hB0 hb
  clear hB0 hb
  have hB0 := hB1
  clear hB1
  go_wp2_with (fail)
  go_ret
  exact ⟨rfl, hB0⟩

theorem seal_tag (kf nf f : Nat → Int) (n : Nat) (g : Nat → Int) (m : Nat) : eqB (fun j => sealF kf nf f n g m (m + j)) (macF kf nf f n (sealF kf nf f n g m) m) 16 = true := eqB_congr fun i hi => by
  rw [macF_congr (g' := encF kf nf g) (fun _ _ => rfl) (fun j hj => by unfold sealF; rw [if_pos hj])]
  unfold sealF
  rw [if_neg (by omega), Nat.add_sub_cancel_left]
set_option maxHeartbeats 4000000 in
theorem Back_law (kf nf f g : Nat → Int) (p q : Option Addr) (n1 n2 c dc n m : Nat) (e1 : min (n1 : Int) 250 = (n : Int)) (e2 : min (n2 : Int) 250 = (m : Int)) (hk : ∀ i, i < 32 → inB (kf i)) (hn : ∀ i, i < 12 → inB (nf i)) (hf : ∀ i, i < n → inB (f i)) (hg : ∀ i, i < m → inB (g i)) (hc1 : n1 ≤ c) (hd1 : n2 ≤ dc) (hc : c ≤ 9223372036854775807) (hd : dc ≤ 9223372036854775807) (w : World) (hG : Has 0 0 GL w) (hp : Byt w p n f) (hq : Byt w q m g) :
    Calls Tryd.prog 6 #[(.agg (seedC2 kf nf).toArray), .slice p n1 c, .slice q n2 dc] w fun e w' => e = .returned (.bool true) ∧ Below w.heap.size w w' := by
  have FW1 := Lib.hid (fun w => few8_any p n1 c n e1 (by omega) w)
  have FW2 := Lib.hid (fun w => few8_any q n2 dc m e2 (by omega) w)
  have N25 := Lib.hid (show n ≤ 250 by omega); have M25 := Lib.hid (show m ≤ 250 by omega)
  have NC := Lib.hid (show n ≤ c by omega); have MD := Lib.hid (show m ≤ dc by omega)
  have HC := Lib.hid hc; have HD_ := Lib.hid hd; have FK := Lib.hid hk; have FN := Lib.hid hn; have HF := Lib.hid hf; have HGF := Lib.hid hg
  have HG0 := Lib.hid hG; have HP0 := Lib.hid hp; have HQ0 := Lib.hid hq
  have SP := Lib.hid (fun w hG hp hq => Seal_any kf nf f g p q n m c dc hk hn hf hg (by omega) (by omega) (by omega) (by omega) hc hd w hG hp hq)
  have OP := Lib.hid (fun qb c4 hd4 hd5 w hG hp hq => Open_core kf nf f (sealF kf nf f n g m) p qb 0 n m (m + 16) c c4 rfl true (seal_tag kf nf f n g m) hk hn hf (fun i _ => in_sealF hg i) (by omega) (by omega) (by omega) hd4 hc hd5 w hG hp hq)
  have EB := Lib.hid (show ∀ j, j < m → encF kf nf (sealF kf nf f n g m) j = g j from fun j hj => by
    have e : encF kf nf (sealF kf nf f n g m) j = encF kf nf (encF kf nf g) j := by unfold encF sealF; rw [if_pos hj]; rfl
    rw [e, enc_back hg j hj])
  generalize sealF kf nf f n g m = sg at SP OP EB
  obtain ⟨N, eN⟩ : ∃ N, m + 16 = N := ⟨_, rfl⟩
  have nN : (m : Int) + 16 = (N : Int) := by omega
  have wN : IntKind.i64.wrap (N : Int) = (N : Int) := IntWalk.i64_in _ (by omega)
  have N16 := Lib.hid (show 16 ≤ N by omega)
  rw [eN] at SP OP
  clear e1 e2 hk hn hf hg hc1 hd1 hc hd hG hp hq
  clear eN
  go_enter Tryd.func6, Tryd.ntmps6
  go_upto_region 1 with fail
  obtain ⟨W0, hW⟩ : ∃ W0, W0 = (w.alloc (.cells (seedC2 kf nf).toArray 25)) := ⟨_, rfl⟩
  have hB0 : Below w.heap.size w W0 := hW ▸ (Below.al (Below.refl _ _))
  have HDo : Hid (Own w.heap.size (seedC2 kf nf) W0) := Lib.hid (hW ▸ (show Own w.heap.size (seedC2 kf nf) (w.alloc (.cells (seedC2 kf nf).toArray 25)) from Own.newAt (by simp)))
  rw [← hW]
  clear hW
  obtain ⟨D, eD⟩ : ∃ X, X = w.heap.size := ⟨_, rfl⟩
  rw [← eD] at HDo ⊢
  have Dw : w.heap.size ≤ D := by omega
  clear eD
  have HD := Lib.hid HDo.out.has
  have HG := Lib.hid (HG0.out.later hB0); have HP := Lib.hid (HP0.out.later hB0); have HQ := Lib.hid (HQ0.out.later hB0)
  clear HG0 HP0 HQ0 HDo
  go_wp2_with (fail)
  go_at_call 9
  refine (FW1.out _).mono ?_
  rintro e w1 ⟨rfl, hb⟩
  have HDk := Lib.hid (HD.out.later hb)
  have HGk := Lib.hid (HG.out.later hb)
  have HPk := Lib.hid (HP.out.later hb)
  have HQk := Lib.hid (HQ.out.later hb)
  clear HD HG HP HQ
  have HD := HDk
  clear HDk
  have HG := HGk
  clear HGk
  have HP := HPk
  clear HPk
  have HQ := HQk
  clear HQk
  have hB1 := Below.go hB0 hb
  clear hB0 hb
  have hB0 := hB1
  clear hB1
  go_wp2_with (fail)
  go_at_call 9
  refine (FW2.out _).mono ?_
  rintro e w2 ⟨rfl, hb⟩
  have HDk := Lib.hid (HD.out.later hb)
  have HGk := Lib.hid (HG.out.later hb)
  have HPk := Lib.hid (HP.out.later hb)
  have HQk := Lib.hid (HQ.out.later hb)
  clear HD HG HP HQ
  have HD := HDk
  clear HDk
  have HG := HGk
  clear HGk
  have HP := HPk
  clear HPk
  have HQ := HQk
  clear HQk
  have hB1 := Below.go hB0 hb
  clear hB0 hb
  have hB0 := hB1
  clear hB1
  clear FW1 FW2
  go_upto_region 2 with fail
  refine wp_region_lit ?_
  refine wpList_val rfl (.pointer (some ⟨D, 0, none⟩)) (by kernel_rfl) ?_
  refine wpList_load_mid rfl 22 _ rfl D 0 rfl (nums .u8 kf 32) _ (seed2_key HD.out).cell Tryd.underlying22 rfl (by kernel_rfl) ?_
  refine wpList_val rfl (.pointer (some ⟨D, 32, none⟩)) (by kernel_rfl) ?_
  refine wpList_load_mid rfl 23 _ rfl D 32 rfl (nums .u8 nf 12) _ (seed2_non HD.out).cell Tryd.underlying23 rfl (by kernel_rfl) ?_
  go_wp2_with (fail)
  go_at_call 15
  refine (SP.out _ HG.out HP.out HQ.out).mono ?_
  rintro e w4 ⟨v4, rfl, hrow, hb⟩
  obtain ⟨X, c4, rfl, _, _⟩ := row_blk hrow (by have := N16.out; omega)
  have BA := Lib.hid (row_has' hrow).1
  have C4 := Lib.hid (row_cap_ hrow)
  clear hrow
  have HDk := Lib.hid (HD.out.later hb)
  have HGk := Lib.hid (HG.out.later hb)
  have HPk := Lib.hid (HP.out.later hb)
  have HQk := Lib.hid (HQ.out.later hb)
  clear HD HG HP HQ
  have HD := HDk
  clear HDk
  have HG := HGk
  clear HGk
  have HP := HPk
  clear HPk
  have HQ := HQk
  clear HQk
  have hB1 := Below.go hB0 hb
  clear hB0 hb
  have hB0 := hB1
  clear hB1
  go_upto_region 3 with fail
  refine wp_region_lit ?_
  refine wpList_val rfl (.pointer (some ⟨D, 0, none⟩)) (by kernel_rfl) ?_
  refine wpList_load_mid rfl 22 _ rfl D 0 rfl (nums .u8 kf 32) _ (seed2_key HD.out).cell Tryd.underlying22 rfl (by kernel_rfl) ?_
  refine wpList_val rfl (.pointer (some ⟨D, 32, none⟩)) (by kernel_rfl) ?_
  refine wpList_load_mid rfl 23 _ rfl D 32 rfl (nums .u8 nf 12) _ (seed2_non HD.out).cell Tryd.underlying23 rfl (by kernel_rfl) ?_
  go_wp2_with (fail)
  go_at_call 18
  refine (OP.out X c4 C4.out.1 C4.out.2 _ HG.out HP.out BA.out).mono ?_
  rintro e w5 ⟨⟨v5, rfl, hrow⟩, hb⟩
  rw [nums_congr (g := g) .u8 EB.out] at hrow
  obtain ⟨q5, c5, rfl, _⟩ := row_form hrow
  have BB := Lib.hid (byt_row hrow).2
  clear hrow
  have HDk := Lib.hid (HD.out.later hb)
  have HGk := Lib.hid (HG.out.later hb)
  have HPk := Lib.hid (HP.out.later hb)
  have HQk := Lib.hid (HQ.out.later hb)
  clear HD HG HP HQ
  have HD := HDk
  clear HDk
  have HG := HGk
  clear HGk
  have HP := HPk
  clear HPk
  have HQ := HQk
  clear HQk
  have hB1 := Below.go hB0 hb
  clear hB0 hb
  have hB0 := hB1
  clear hB1
  go_wp2_with (fail)
  go_at_call 17
  refine (Equal_any q5 q m c5 dc g _ BB.out HQ.out).mono ?_
  rintro e w7 ⟨rfl, hb⟩
  have HGk := Lib.hid (HG.out.later hb)
  clear HG
  have HG := HGk
  clear HGk
  have hB1 := Below.go hB0 hb
  clear hB0 hb
  have hB0 := hB1
  clear hB1
  go_wp2_with (fail)
  go_at_call 14
  refine (works8_any _ HG.out).mono ?_
  rintro e w8 ⟨rfl, hb⟩
  have hB1 := Below.go hB0 hb
  clear hB0 hb
  have hB0 := hB1
  clear hB1
  go_wp2_with (fail)
  go_ret
  exact ⟨rfl, hB0⟩
end Go.Proofs.YtjkeaiihjbcfgaaDoor
