/- AeadOpens: the walk. -/
import Derived.Test.YtjkeaiihjbcfgaaDoorYEN
import Derived.Lib.Hide
import Derived.Deep.Onto
import Derived.Laws.OwnMore
namespace Go.Proofs.YtjkeaiihjbcfgaaDoor
set_option linter.unusedVariables false
set_option maxRecDepth 2000
set_option linter.unusedSimpArgs false
open Go.RowKit
attribute [local go_sem] nums_length

theorem eqB_comm (f g : Nat → Int) (n : Nat) : eqB f g n = eqB g f n := by
  unfold eqB
  congr 1
  exact propext ⟨fun h i hi => (h i hi).symm, fun h i hi => (h i hi).symm⟩
set_option maxHeartbeats 4000000 in
theorem Opens_short (kf nf f g : Nat → Int) (p q : Option Addr) (n1 n2 c dc n m : Nat) (e1 : min (n1 : Int) 250 = (n : Int)) (e2 : min (n2 : Int) 250 = (m : Int)) (hk : ∀ i, i < 32 → inB (kf i)) (hn : ∀ i, i < 12 → inB (nf i)) (hf : ∀ i, i < n → inB (f i)) (hg : ∀ i, i < m → inB (g i)) (hc1 : n1 ≤ c) (hd1 : n2 ≤ dc) (hc : c ≤ 9223372036854775807) (hd : dc ≤ 9223372036854775807) (w : World) (hG : Has 0 0 GL w) (hp : Byt w p n f) (hq : Byt w q m g) (hm : m < 16) :
    Calls Tryd.prog 5 #[(.agg (seedC2 kf nf).toArray), .slice p n1 c, .slice q n2 dc] w fun e w' => e = .returned (.bool true) ∧ Below w.heap.size w w' := by
  have FW1 := Lib.hid (fun w => few8_any p n1 c n e1 (by omega) w)
  have FW2 := Lib.hid (fun w => few8_any q n2 dc m e2 (by omega) w)
  have N25 := Lib.hid (show n ≤ 250 by omega); have M25 := Lib.hid (show m ≤ 250 by omega)
  have NC := Lib.hid (show n ≤ c by omega); have MD := Lib.hid (show m ≤ dc by omega)
  have HC := Lib.hid hc; have HD_ := Lib.hid hd; have FK := Lib.hid hk; have FN := Lib.hid hn; have HF := Lib.hid hf; have HGF := Lib.hid hg
  have HG0 := Lib.hid hG; have HP0 := Lib.hid hp; have HQ0 := Lib.hid hq
  have HM := Lib.hid hm
  clear e1 e2 hk hn hf hg hc1 hd1 hc hd hG hp hq
  clear hm
  go_enter Tryd.func5, Tryd.ntmps5
  go_upto_region 1 with fail
  obtain ⟨W0, hW⟩ : ∃ W0, W0 = (w.alloc (.cells (seedC2 kf nf).toArray 25)) := ⟨_, rfl⟩
  have hB0 : Below w.heap.size w W0 := hW ▸ (Below.al (Below.refl _ _))
  have HDo : Hid (Own w.heap.size (seedC2 kf nf) W0) := Lib.hid (hW ▸ (show Own w.heap.size (seedC2 kf nf) (w.alloc (.cells (seedC2 kf nf).toArray 25)) from Own.newAt (by simp)))
  rw [← hW]
  clear hW
  obtain ⟨D, eD⟩ : ∃ X, X = w.heap.size := ⟨_, rfl⟩
  rw [← eD] at HDo ⊢
  have Dw : w.heap.size ≤ D := by omega
  clear eD
  have HD := Lib.hid HDo.out.has
  have HG := Lib.hid (HG0.out.later hB0); have HP := Lib.hid (HP0.out.later hB0); have HQ := Lib.hid (HQ0.out.later hB0)
  clear HG0 HP0 HQ0 HDo
  go_wp2_with (fail)
  go_at_call 9
  refine (FW1.out _).mono ?_
  rintro e w1 ⟨rfl, hb⟩
  have HDk := Lib.hid (HD.out.later hb)
  have HGk := Lib.hid (HG.out.later hb)
  have HPk := Lib.hid (HP.out.later hb)
  have HQk := Lib.hid (HQ.out.later hb)
  clear HD HG HP HQ
  have HD := HDk
  clear HDk
  have HG := HGk
  clear HGk
  have HP := HPk
  clear HPk
  have HQ := HQk
  clear HQk
  have hB1 := Below.go hB0 hb
  clear hB0 hb
  have hB0 := hB1
  clear hB1
  go_wp2_with (fail)
  go_at_call 9
  refine (FW2.out _).mono ?_
  rintro e w2 ⟨rfl, hb⟩
  have HDk := Lib.hid (HD.out.later hb)
  have HGk := Lib.hid (HG.out.later hb)
  have HPk := Lib.hid (HP.out.later hb)
  have HQk := Lib.hid (HQ.out.later hb)
  clear HD HG HP HQ
  have HD := HDk
  clear HDk
  have HG := HGk
  clear HGk
  have HP := HPk
  clear HPk
  have HQ := HQk
  clear HQk
  have hB1 := Below.go hB0 hb
  clear hB0 hb
  have hB0 := hB1
  clear hB1
  clear FW1 FW2
  go_upto_region 2 with fail
  refine wp_region_lit ?_
  refine wpList_val rfl (.pointer (some ⟨D, 0, none⟩)) (by kernel_rfl) ?_
  refine wpList_load_mid rfl 22 _ rfl D 0 rfl (nums .u8 kf 32) _ (seed2_key HD.out).cell Tryd.underlying22 rfl (by kernel_rfl) ?_
  refine wpList_val rfl (.pointer (some ⟨D, 32, none⟩)) (by kernel_rfl) ?_
  refine wpList_load_mid rfl 23 _ rfl D 32 rfl (nums .u8 nf 12) _ (seed2_non HD.out).cell Tryd.underlying23 rfl (by kernel_rfl) ?_
  go_wp2_with (fail)
  go_at_call 18
  refine (Open_short kf nf p q n m c dc HM.out _).mono ?_
  rintro e w4 ⟨rfl, hb⟩
  have HDk := Lib.hid (HD.out.later hb)
  have HGk := Lib.hid (HG.out.later hb)
  have HPk := Lib.hid (HP.out.later hb)
  have HQk := Lib.hid (HQ.out.later hb)
  clear HD HG HP HQ
  have HD := HDk
  clear HDk
  have HG := HGk
  clear HGk
  have HP := HPk
  clear HPk
  have HQ := HQk
  clear HQk
  have hB1 := Below.go hB0 hb
  clear hB0 hb
  have hB0 := hB1
  clear hB1
  go_upto_region 3 with fail
  refine wp_region_lit ?_
  refine wpList_val rfl (.pointer (some ⟨D, 0, none⟩)) (by kernel_rfl) ?_
  refine wpList_load_mid rfl 22 _ rfl D 0 rfl (nums .u8 kf 32) _ (seed2_key HD.out).cell Tryd.underlying22 rfl (by kernel_rfl) ?_
  refine wpList_val rfl (.pointer (some ⟨D, 32, none⟩)) (by kernel_rfl) ?_
  refine wpList_load_mid rfl 23 _ rfl D 32 rfl (nums .u8 nf 12) _ (seed2_non HD.out).cell Tryd.underlying23 rfl (by kernel_rfl) ?_
  go_wp2_with (fail)
  go_at_call 19
  refine (ROpen_short kf nf p q n m c dc HM.out _).mono ?_
  rintro e w5 ⟨rfl, hb⟩
  have HDk := Lib.hid (HD.out.later hb)
  have HGk := Lib.hid (HG.out.later hb)
  have HPk := Lib.hid (HP.out.later hb)
  have HQk := Lib.hid (HQ.out.later hb)
  clear HD HG HP HQ
  have HD := HDk
  clear HDk
  have HG := HGk
  clear HGk
  have HP := HPk
  clear HPk
  have HQ := HQk
  clear HQk
  have hB1 := Below.go hB0 hb
  clear hB0 hb
  have hB0 := hB1
  clear hB1
  go_wp2_with (fail)
  go_at_call 17
  refine (Equal_any none none 0 0 0 (fun _ => 0) _ (.inl rfl) (.inl rfl)).mono ?_
  rintro e w7 ⟨rfl, hb⟩
  have HGk := Lib.hid (HG.out.later hb)
  clear HG
  have HG := HGk
  clear HGk
  have hB1 := Below.go hB0 hb
  clear hB0 hb
  have hB0 := hB1
  clear hB1
  go_wp2_with (fail)
  go_at_call 14
  refine (works8_any _ HG.out).mono ?_
  rintro e w8 ⟨rfl, hb⟩
  have hB1 := Below.go hB0 hb
  clear hB0 hb
  have hB0 := hB1
  clear hB1
  go_wp2_with (fail)
  go_ret
  exact ⟨rfl, hB0⟩

set_option maxHeartbeats 4000000 in
theorem Opens_true (kf nf f g : Nat → Int) (p q : Option Addr) (n1 n2 c dc n m : Nat) (e1 : min (n1 : Int) 250 = (n : Int)) (e2 : min (n2 : Int) 250 = (m : Int)) (hk : ∀ i, i < 32 → inB (kf i)) (hn : ∀ i, i < 12 → inB (nf i)) (hf : ∀ i, i < n → inB (f i)) (hg : ∀ i, i < m → inB (g i)) (hc1 : n1 ≤ c) (hd1 : n2 ≤ dc) (hc : c ≤ 9223372036854775807) (hd : dc ≤ 9223372036854775807) (w : World) (hG : Has 0 0 GL w) (hp : Byt w p n f) (hq : Byt w q m g) (k : Nat) (ek : m = k + 16) (ez : eqB (fun j => g (k + j)) (macF kf nf f n g k) 16 = true) :
    Calls Tryd.prog 5 #[(.agg (seedC2 kf nf).toArray), .slice p n1 c, .slice q n2 dc] w fun e w' => e = .returned (.bool true) ∧ Below w.heap.size w w' := by
  have FW1 := Lib.hid (fun w => few8_any p n1 c n e1 (by omega) w)
  have FW2 := Lib.hid (fun w => few8_any q n2 dc m e2 (by omega) w)
  have N25 := Lib.hid (show n ≤ 250 by omega); have M25 := Lib.hid (show m ≤ 250 by omega)
  have NC := Lib.hid (show n ≤ c by omega); have MD := Lib.hid (show m ≤ dc by omega)
  have HC := Lib.hid hc; have HD_ := Lib.hid hd; have FK := Lib.hid hk; have FN := Lib.hid hn; have HF := Lib.hid hf; have HGF := Lib.hid hg
  have HG0 := Lib.hid hG; have HP0 := Lib.hid hp; have HQ0 := Lib.hid hq
  obtain ⟨qb, qo, rfl, hqh⟩ := hq.resolve_left (by omega)
  have OP := Lib.hid (fun w hG hp hq => Open_core kf nf f g p qb qo n k m c dc ek true ez hk hn hf hg (by omega) (by omega) (by omega) (by omega) hc hd w hG hp hq)
  have RO := Lib.hid (fun w hp hq => ROpen_core kf nf f g p qb qo n k m c dc ek true ez hk hn hf hg (by omega) (by omega) (by omega) w hp hq)
  have HQ0 := Lib.hid hqh
  clear ez hqh ek
  clear e1 e2 hk hn hf hg hc1 hd1 hc hd hG hp hq
  go_enter Tryd.func5, Tryd.ntmps5
  go_upto_region 1 with fail
  obtain ⟨W0, hW⟩ : ∃ W0, W0 = (w.alloc (.cells (seedC2 kf nf).toArray 25)) := ⟨_, rfl⟩
  have hB0 : Below w.heap.size w W0 := hW ▸ (Below.al (Below.refl _ _))
  have HDo : Hid (Own w.heap.size (seedC2 kf nf) W0) := Lib.hid (hW ▸ (show Own w.heap.size (seedC2 kf nf) (w.alloc (.cells (seedC2 kf nf).toArray 25)) from Own.newAt (by simp)))
  rw [← hW]
  clear hW
  obtain ⟨D, eD⟩ : ∃ X, X = w.heap.size := ⟨_, rfl⟩
  rw [← eD] at HDo ⊢
  have Dw : w.heap.size ≤ D := by omega
  clear eD
  have HD := Lib.hid HDo.out.has
  have HG := Lib.hid (HG0.out.later hB0); have HP := Lib.hid (HP0.out.later hB0); have HQ := Lib.hid (HQ0.out.later hB0)
  clear HG0 HP0 HQ0 HDo
  go_wp2_with (fail)
  go_at_call 9
  refine (FW1.out _).mono ?_
  rintro e w1 ⟨rfl, hb⟩
  have HDk := Lib.hid (HD.out.later hb)
  have HGk := Lib.hid (HG.out.later hb)
  have HPk := Lib.hid (HP.out.later hb)
  have HQk := Lib.hid (HQ.out.later hb)
  clear HD HG HP HQ
  have HD := HDk
  clear HDk
  have HG := HGk
  clear HGk
  have HP := HPk
  clear HPk
  have HQ := HQk
  clear HQk
  have hB1 := Below.go hB0 hb
  clear hB0 hb
  have hB0 := hB1
  clear hB1
  go_wp2_with (fail)
  go_at_call 9
  refine (FW2.out _).mono ?_
  rintro e w2 ⟨rfl, hb⟩
  have HDk := Lib.hid (HD.out.later hb)
  have HGk := Lib.hid (HG.out.later hb)
  have HPk := Lib.hid (HP.out.later hb)
  have HQk := Lib.hid (HQ.out.later hb)
  clear HD HG HP HQ
  have HD := HDk
  clear HDk
  have HG := HGk
  clear HGk
  have HP := HPk
  clear HPk
  have HQ := HQk
  clear HQk
  have hB1 := Below.go hB0 hb
  clear hB0 hb
  have hB0 := hB1
  clear hB1
  clear FW1 FW2
  go_upto_region 2 with fail
  refine wp_region_lit ?_
  refine wpList_val rfl (.pointer (some ⟨D, 0, none⟩)) (by kernel_rfl) ?_
  refine wpList_load_mid rfl 22 _ rfl D 0 rfl (nums .u8 kf 32) _ (seed2_key HD.out).cell Tryd.underlying22 rfl (by kernel_rfl) ?_
  refine wpList_val rfl (.pointer (some ⟨D, 32, none⟩)) (by kernel_rfl) ?_
  refine wpList_load_mid rfl 23 _ rfl D 32 rfl (nums .u8 nf 12) _ (seed2_non HD.out).cell Tryd.underlying23 rfl (by kernel_rfl) ?_
  go_wp2_with (fail)
  go_at_call 18
  refine (OP.out _ HG.out HP.out HQ.out).mono ?_
  rintro e w4 ⟨⟨v4, rfl, hrow⟩, hb⟩
  obtain ⟨q4, c4, rfl, _⟩ := row_form hrow
  have BA := Lib.hid (byt_row hrow).2
  clear hrow
  have HDk := Lib.hid (HD.out.later hb)
  have HGk := Lib.hid (HG.out.later hb)
  have HPk := Lib.hid (HP.out.later hb)
  have HQk := Lib.hid (HQ.out.later hb)
  clear HD HG HP HQ
  have HD := HDk
  clear HDk
  have HG := HGk
  clear HGk
  have HP := HPk
  clear HPk
  have HQ := HQk
  clear HQk
  have hB1 := Below.go hB0 hb
  clear hB0 hb
  have hB0 := hB1
  clear hB1
  go_upto_region 3 with fail
  refine wp_region_lit ?_
  refine wpList_val rfl (.pointer (some ⟨D, 0, none⟩)) (by kernel_rfl) ?_
  refine wpList_load_mid rfl 22 _ rfl D 0 rfl (nums .u8 kf 32) _ (seed2_key HD.out).cell Tryd.underlying22 rfl (by kernel_rfl) ?_
  refine wpList_val rfl (.pointer (some ⟨D, 32, none⟩)) (by kernel_rfl) ?_
  refine wpList_load_mid rfl 23 _ rfl D 32 rfl (nums .u8 nf 12) _ (seed2_non HD.out).cell Tryd.underlying23 rfl (by kernel_rfl) ?_
  go_wp2_with (fail)
  go_at_call 19
  refine (RO.out _ HP.out HQ.out).mono ?_
  rintro e w5 ⟨⟨v5, rfl, hrow⟩, hb⟩
  obtain ⟨q5, c5, rfl, _, _, h5⟩ := hrow
  have BB := Lib.hid h5
  clear h5
  have HDk := Lib.hid (HD.out.later hb)
  have HGk := Lib.hid (HG.out.later hb)
  have HPk := Lib.hid (HP.out.later hb)
  have HQk := Lib.hid (HQ.out.later hb)
  have BAk := Lib.hid (BA.out.later hb)
  clear HD HG HP HQ BA
  have HD := HDk
  clear HDk
  have HG := HGk
  clear HGk
  have HP := HPk
  clear HPk
  have HQ := HQk
  clear HQk
  have BA := BAk
  clear BAk
  have hB1 := Below.go hB0 hb
  clear hB0 hb
  have hB0 := hB1
  clear hB1
  go_wp2_with (fail)
  go_at_call 17
  refine (Equal_any q4 q5 k c4 c5 (encF kf nf g) _ BA.out BB.out).mono ?_
  rintro e w7 ⟨rfl, hb⟩
  have HGk := Lib.hid (HG.out.later hb)
  clear HG
  have HG := HGk
  clear HGk
  have hB1 := Below.go hB0 hb
  clear hB0 hb
  have hB0 := hB1
  clear hB1
  go_wp2_with (fail)
  go_at_call 14
  refine (works8_any _ HG.out).mono ?_
  rintro e w8 ⟨rfl, hb⟩
  have hB1 := Below.go hB0 hb
  clear hB0 hb
  have hB0 := hB1
  clear hB1
  go_wp2_with (fail)
  go_ret
  exact ⟨rfl, hB0⟩

set_option maxHeartbeats 4000000 in
theorem Opens_false (kf nf f g : Nat → Int) (p q : Option Addr) (n1 n2 c dc n m : Nat) (e1 : min (n1 : Int) 250 = (n : Int)) (e2 : min (n2 : Int) 250 = (m : Int)) (hk : ∀ i, i < 32 → inB (kf i)) (hn : ∀ i, i < 12 → inB (nf i)) (hf : ∀ i, i < n → inB (f i)) (hg : ∀ i, i < m → inB (g i)) (hc1 : n1 ≤ c) (hd1 : n2 ≤ dc) (hc : c ≤ 9223372036854775807) (hd : dc ≤ 9223372036854775807) (w : World) (hG : Has 0 0 GL w) (hp : Byt w p n f) (hq : Byt w q m g) (k : Nat) (ek : m = k + 16) (ez : eqB (fun j => g (k + j)) (macF kf nf f n g k) 16 = false) :
    Calls Tryd.prog 5 #[(.agg (seedC2 kf nf).toArray), .slice p n1 c, .slice q n2 dc] w fun e w' => e = .returned (.bool true) ∧ Below w.heap.size w w' := by
  have FW1 := Lib.hid (fun w => few8_any p n1 c n e1 (by omega) w)
  have FW2 := Lib.hid (fun w => few8_any q n2 dc m e2 (by omega) w)
  have N25 := Lib.hid (show n ≤ 250 by omega); have M25 := Lib.hid (show m ≤ 250 by omega)
  have NC := Lib.hid (show n ≤ c by omega); have MD := Lib.hid (show m ≤ dc by omega)
  have HC := Lib.hid hc; have HD_ := Lib.hid hd; have FK := Lib.hid hk; have FN := Lib.hid hn; have HF := Lib.hid hf; have HGF := Lib.hid hg
  have HG0 := Lib.hid hG; have HP0 := Lib.hid hp; have HQ0 := Lib.hid hq
  obtain ⟨qb, qo, rfl, hqh⟩ := hq.resolve_left (by omega)
  have OP := Lib.hid (fun w hG hp hq => Open_core kf nf f g p qb qo n k m c dc ek false ez hk hn hf hg (by omega) (by omega) (by omega) (by omega) hc hd w hG hp hq)
  have RO := Lib.hid (fun w hp hq => ROpen_core kf nf f g p qb qo n k m c dc ek false ez hk hn hf hg (by omega) (by omega) (by omega) w hp hq)
  have HQ0 := Lib.hid hqh
  clear ez hqh ek
  clear e1 e2 hk hn hf hg hc1 hd1 hc hd hG hp hq
  go_enter Tryd.func5, Tryd.ntmps5
  go_upto_region 1 with fail
  obtain ⟨W0, hW⟩ : ∃ W0, W0 = (w.alloc (.cells (seedC2 kf nf).toArray 25)) := ⟨_, rfl⟩
  have hB0 : Below w.heap.size w W0 := hW ▸ (Below.al (Below.refl _ _))
  have HDo : Hid (Own w.heap.size (seedC2 kf nf) W0) := Lib.hid (hW ▸ (show Own w.heap.size (seedC2 kf nf) (w.alloc (.cells (seedC2 kf nf).toArray 25)) from Own.newAt (by simp)))
  rw [← hW]
  clear hW
  obtain ⟨D, eD⟩ : ∃ X, X = w.heap.size := ⟨_, rfl⟩
  rw [← eD] at HDo ⊢
  have Dw : w.heap.size ≤ D := by omega
  clear eD
  have HD := Lib.hid HDo.out.has
  have HG := Lib.hid (HG0.out.later hB0); have HP := Lib.hid (HP0.out.later hB0); have HQ := Lib.hid (HQ0.out.later hB0)
  clear HG0 HP0 HQ0 HDo
  go_wp2_with (fail)
  go_at_call 9
  refine (FW1.out _).mono ?_
  rintro e w1 ⟨rfl, hb⟩
  have HDk := Lib.hid (HD.out.later hb)
  have HGk := Lib.hid (HG.out.later hb)
  have HPk := Lib.hid (HP.out.later hb)
  have HQk := Lib.hid (HQ.out.later hb)
  clear HD HG HP HQ
  have HD := HDk
  clear HDk
  have HG := HGk
  clear HGk
  have HP := HPk
  clear HPk
  have HQ := HQk
  clear HQk
  have hB1 := Below.go hB0 hb
  clear hB0 hb
  have hB0 := hB1
  clear hB1
  go_wp2_with (fail)
  go_at_call 9
  refine (FW2.out _).mono ?_
  rintro e w2 ⟨rfl, hb⟩
  have HDk := Lib.hid (HD.out.later hb)
  have HGk := Lib.hid (HG.out.later hb)
  have HPk := Lib.hid (HP.out.later hb)
  have HQk := Lib.hid (HQ.out.later hb)
  clear HD HG HP HQ
  have HD := HDk
  clear HDk
  have HG := HGk
  clear HGk
  have HP := HPk
  clear HPk
  have HQ := HQk
  clear HQk
  have hB1 := Below.go hB0 hb
  clear hB0 hb
  have hB0 := hB1
  clear hB1
  clear FW1 FW2
  go_upto_region 2 with fail
  refine wp_region_lit ?_
  refine wpList_val rfl (.pointer (some ⟨D, 0, none⟩)) (by kernel_rfl) ?_
  refine wpList_load_mid rfl 22 _ rfl D 0 rfl (nums .u8 kf 32) _ (seed2_key HD.out).cell Tryd.underlying22 rfl (by kernel_rfl) ?_
  refine wpList_val rfl (.pointer (some ⟨D, 32, none⟩)) (by kernel_rfl) ?_
  refine wpList_load_mid rfl 23 _ rfl D 32 rfl (nums .u8 nf 12) _ (seed2_non HD.out).cell Tryd.underlying23 rfl (by kernel_rfl) ?_
  go_wp2_with (fail)
  go_at_call 18
  refine (OP.out _ HG.out HP.out HQ.out).mono ?_
  rintro e w4 ⟨he, hb⟩
  obtain rfl : e = .returned (.tuple #[.slice none 0 0, .int .i64 6]) := he
  have HDk := Lib.hid (HD.out.later hb)
  have HGk := Lib.hid (HG.out.later hb)
  have HPk := Lib.hid (HP.out.later hb)
  have HQk := Lib.hid (HQ.out.later hb)
  clear HD HG HP HQ
  have HD := HDk
  clear HDk
  have HG := HGk
  clear HGk
  have HP := HPk
  clear HPk
  have HQ := HQk
  clear HQk
  have hB1 := Below.go hB0 hb
  clear hB0 hb
  have hB0 := hB1
  clear hB1
  go_upto_region 3 with fail
  refine wp_region_lit ?_
  refine wpList_val rfl (.pointer (some ⟨D, 0, none⟩)) (by kernel_rfl) ?_
  refine wpList_load_mid rfl 22 _ rfl D 0 rfl (nums .u8 kf 32) _ (seed2_key HD.out).cell Tryd.underlying22 rfl (by kernel_rfl) ?_
  refine wpList_val rfl (.pointer (some ⟨D, 32, none⟩)) (by kernel_rfl) ?_
  refine wpList_load_mid rfl 23 _ rfl D 32 rfl (nums .u8 nf 12) _ (seed2_non HD.out).cell Tryd.underlying23 rfl (by kernel_rfl) ?_
  go_wp2_with (fail)
  go_at_call 19
  refine (RO.out _ HP.out HQ.out).mono ?_
  rintro e w5 ⟨he, hb⟩
  obtain rfl : e = .returned (.tuple #[.slice none 0 0, .int .i64 6]) := he
  have HDk := Lib.hid (HD.out.later hb)
  have HGk := Lib.hid (HG.out.later hb)
  have HPk := Lib.hid (HP.out.later hb)
  have HQk := Lib.hid (HQ.out.later hb)
  clear HD HG HP HQ
  have HD := HDk
  clear HDk
  have HG := HGk
  clear HGk
  have HP := HPk
  clear HPk
  have HQ := HQk
  clear HQk
  have hB1 := Below.go hB0 hb
  clear hB0 hb
  have hB0 := hB1
  clear hB1
  go_wp2_with (fail)
  go_at_call 17
  refine (Equal_any none none 0 0 0 (fun _ => 0) _ (.inl rfl) (.inl rfl)).mono ?_
  rintro e w7 ⟨rfl, hb⟩
  have HGk := Lib.hid (HG.out.later hb)
  clear HG
  have HG := HGk
  clear HGk
  have hB1 := Below.go hB0 hb
  clear hB0 hb
  have hB0 := hB1
  clear hB1
  go_wp2_with (fail)
  go_at_call 14
  refine (works8_any _ HG.out).mono ?_
  rintro e w8 ⟨rfl, hb⟩
  have hB1 := Below.go hB0 hb
  clear hB0 hb
  have hB0 := hB1
  clear hB1
  go_wp2_with (fail)
  go_ret
  exact ⟨rfl, hB0⟩

theorem Opens_law (kf nf f g : Nat → Int) (p q : Option Addr) (n1 n2 c dc n m : Nat) (e1 : min (n1 : Int) 250 = (n : Int)) (e2 : min (n2 : Int) 250 = (m : Int)) (hk : ∀ i, i < 32 → inB (kf i)) (hn : ∀ i, i < 12 → inB (nf i)) (hf : ∀ i, i < n → inB (f i)) (hg : ∀ i, i < m → inB (g i)) (hc1 : n1 ≤ c) (hd1 : n2 ≤ dc) (hc : c ≤ 9223372036854775807) (hd : dc ≤ 9223372036854775807) (w : World) (hG : Has 0 0 GL w) (hp : Byt w p n f) (hq : Byt w q m g) :
    Calls Tryd.prog 5 #[(.agg (seedC2 kf nf).toArray), .slice p n1 c, .slice q n2 dc] w fun e w' => e = .returned (.bool true) ∧ Below w.heap.size w w' := by
  by_cases hm : m < 16
  · exact Opens_short kf nf f g p q n1 n2 c dc n m e1 e2 hk hn hf hg hc1 hd1 hc hd w hG hp hq hm
  · obtain ⟨k, ek⟩ : ∃ k, m = k + 16 := ⟨m - 16, by omega⟩
    cases ez : eqB (fun j => g (k + j)) (macF kf nf f n g k) 16 with
    | true => exact Opens_true kf nf f g p q n1 n2 c dc n m e1 e2 hk hn hf hg hc1 hd1 hc hd w hG hp hq k ek ez
    | false => exact Opens_false kf nf f g p q n1 n2 c dc n m e1 e2 hk hn hf hg hc1 hd1 hc hd w hG hp hq k ek ez
end Go.Proofs.YtjkeaiihjbcfgaaDoor
