/- PolyShifts: the walk. -/
import Derived.Test.YtljngnemiaklhaaNZc
import Derived.Test.YtljngnemiaklhaaNX
import Derived.Lib.Hide
import Derived.StillTailTactics
namespace Go.Proofs.Ytljngnemiaklhaa
set_option linter.unusedVariables false
set_option maxRecDepth 2000
set_option linter.unusedSimpArgs false
open Go.RowKit
theorem over_high (f g : Nat → Int) : over (nums .u8 f 32) 16 (nums .u8 g 16) = nums .u8 (halfs f g) 32 := by
  apply List.ext_getElem?
  intro j
  unfold over
  by_cases h1 : j < 16
  · rw [List.append_assoc, List.getElem?_append_left (by simp [nums_length]; omega), List.getElem?_take_of_lt h1, nums_at _ _ (by omega), nums_at _ _ (by omega), halfs_low _ _ h1]
  · by_cases h2 : j < 32
    · rw [List.getElem?_append_left (by simp [nums_length]; omega), List.getElem?_append_right (by simp [nums_length]; omega)]
      obtain ⟨k, rfl⟩ : ∃ k, j = 16 + k := ⟨j - 16, by omega⟩
      rw [nums_at _ _ h2, halfs_high]
      simp only [List.length_take, nums_length]
      rw [show 16 + k - min 16 32 = k by omega, nums_at _ _ (by omega)]
    · rw [nums_out _ _ (by omega)]
      simp [nums_length]
      omega
theorem over_half (f : Nat → Int) : over (nums .u8 (fun _ => 0) 32) 0 (nums .u8 f 16) = nums .u8 (halfs f (fun _ => 0)) 32 := by
  rw [over_nums _ _ _ _ (by decide)]
  rfl
theorem list1 {p : Option Addr} {N c : Nat} : (#[Value.slice p N c] : Array Value).toList = [Value.slice p N c] := rfl
theorem stb16 (w : World) (f : Nat → Int) (c : Array Value) (hc : c.size = 16) : (storeCells ⟨w.heap.size, 0, none⟩ (nums .u8 f 16)).run Try.prog (w.alloc (.cells c 23)) = .ok () (w.alloc (.cells (nums .u8 f 16).toArray 23)) :=
  run_storeCells_new (P := Try.prog) w 23 c (nums .u8 f 16).toArray (by rw [nums_size]; kernel_rfl) (by rw [nums_size, hc]) (nums_all _ _ _)
attribute [local go_sem] nums_length st32 stb16

set_option maxHeartbeats 8000000 in
theorem Shifts_law (kf g f : Nat → Int) (p : Option Addr) (n c N : Nat) (e : (if 300 < (n : Int) then 300 else (n : Int)) = (N : Int)) (hk : ∀ i, i < 32 → inB (kf i)) (hg : ∀ i, i < 16 → inB (g i)) (hf : ∀ i, i < N → inB (f i)) (hnc : n ≤ c) (hc : c ≤ 9223372036854775807) (w : World) (hb : Byt w p N f) :
    Calls Try.prog 8 #[(.agg (nums .u8 kf 32).toArray), (.agg (nums .u8 g 16).toArray), .slice p n c] w fun e w' => e = .returned (.bool true) ∧ Below w.heap.size w w' := by
  have hmn : N ≤ n := by split at e <;> omega
  have hm3 : N ≤ 300 := by split at e <;> omega
  have FW := Lib.hid (fun w => few_any p n c N e (by omega) w)
  have z0 : ∀ i, i < 16 → inB ((fun _ => 0 : Nat → Int) i) := fun _ _ => (show inB 0 from ⟨by decide, by decide⟩)
  have kl : ∀ i, i < 16 → inB (kf i) := fun i hi => hk i (by omega)
  have kh : ∀ i, i < 16 → inB ((fun i => kf (16 + i)) i) := fun i hi => hk _ (by omega)
  have kc : ∀ i, i < 16 → inB (clampF kf i) := fun i hi => in_clampF (kl i hi)
  obtain ⟨h0, eh⟩ : ∃ h0, horn (facN kf) f N ((N + 15) / 16) = h0 := ⟨_, rfl⟩
  have q1 : tagN (halfs kf (fun _ => 0)) f N = h0 + 0 := by rw [tag_halfs, eh, numB_zero]
  have q2 : tagN (halfs (clampF kf) (fun _ => 0)) f N = h0 + 0 := by rw [tag_halfs, facN_congr (a := clampF kf) (b := kf) (fun i hi => clampF_twice (kl i hi)), eh, numB_zero]
  have q3 : tagN (halfs kf g) f N = h0 + numB g 16 := by rw [tag_halfs, eh]
  have q4 : tagN kf f N = h0 + numB (fun i => kf (16 + i)) 16 := by unfold tagN; rw [eh]
  have T1 := Lib.hid (fun L w h hb => Tag_one (halfs kf (fun _ => 0)) f L p N c (in_halfs kl z0) hf (by omega) (by omega) hc w h hb)
  have T2 := Lib.hid (fun L w h hb => Tag_one (halfs (clampF kf) (fun _ => 0)) f L p N c (in_halfs kc z0) hf (by omega) (by omega) hc w h hb)
  have T3 := Lib.hid (fun L w h hb => Tag_one (halfs kf g) f L p N c (in_halfs kl hg) hf (by omega) (by omega) hc w h hb)
  have T4 := Lib.hid (fun L w h hb => Tag_one kf f L p N c hk hf (by omega) (by omega) hc w h hb)
  rw [q1] at T1; rw [q2] at T2; rw [q3] at T3; rw [q4] at T4
  have L3 := Lib.hid (fun w => less_any_ (byt (h0 + numB g 16)) (byt (h0 + 0)) (fun i _ => in_byt _ i) (fun i _ => in_byt _ i) w)
  have L4 := Lib.hid (fun w => less_any_ (byt (h0 + numB (fun i => kf (16 + i)) 16)) (byt (h0 + 0)) (fun i _ => in_byt _ i) (fun i _ => in_byt _ i) w)
  rw [nums_congr (g := g) .u8 (fun i hi => less_back h0 g hg i hi)] at L3
  rw [nums_congr (g := fun i => kf (16 + i)) .u8 (fun i hi => less_back h0 (fun i => kf (16 + i)) kh i hi)] at L4
  have CA := Lib.hid (fun w => Clamp_any kf kl w)
  clear q1 q2 q3 q4 eh kc z0
  obtain ⟨t0, e0⟩ : ∃ t, h0 + 0 = t := ⟨_, rfl⟩
  obtain ⟨t3, e3⟩ : ∃ t, h0 + numB g 16 = t := ⟨_, rfl⟩
  obtain ⟨t4, e4⟩ : ∃ t, h0 + numB (fun i => kf (16 + i)) 16 = t := ⟨_, rfl⟩
  rw [e0] at T1 T2 L3 L4; rw [e3] at T3 L3; rw [e4] at T4 L4
  have Q0 := Lib.hid (fun w => eq16 (byt t0) (byt t0) w)
  have Q1 := Lib.hid (fun w => eq16 g g w)
  have Q2 := Lib.hid (fun w => eq16 (fun i => kf (16 + i)) (fun i => kf (16 + i)) w)
  rw [eqB_self] at Q0 Q1 Q2
  have BY0 := Lib.hid hb
  clear e0 e3 e4 e hk hg hf hnc hc hmn hm3 hb kl kh h0
  go_enter Try.func8, Try.ntmps8
  go_upto_region 1 with fail
  obtain ⟨W0, hW⟩ : ∃ W0, W0 = ((w.alloc (.cells (nums .u8 kf 32).toArray 31)).alloc (.cells (nums .u8 g 16).toArray 23)) := ⟨_, rfl⟩
  have hB0 : Below w.heap.size w W0 := hW ▸ (Below.al (Below.al (Below.refl _ _)))
  have HY : Hid (Own w.heap.size (nums .u8 kf 32) W0) := Lib.hid (hW ▸ (show Own w.heap.size (nums .u8 kf 32) (w.alloc (.cells (nums .u8 kf 32).toArray 31)) from Own.newAt (by simp)).alloc)
  have HS : Hid (Own (w.heap.size + 1) (nums .u8 g 16) W0) := Lib.hid (hW ▸ (show Own (w.heap.size + 1) (nums .u8 g 16) ((w.alloc (.cells (nums .u8 kf 32).toArray 31)).alloc (.cells (nums .u8 g 16).toArray 23)) from Own.newAt (by simp)))
  rw [← hW]
  clear hW
  obtain ⟨S_, eS_⟩ : ∃ X, X = (w.heap.size + 1) := ⟨_, rfl⟩
  rw [← eS_] at HS ⊢
  have S_w : w.heap.size ≤ S_ := by omega
  obtain ⟨Y, eY⟩ : ∃ X, X = w.heap.size := ⟨_, rfl⟩
  rw [← eY] at HY ⊢
  have Yw : w.heap.size ≤ Y := by omega
  have nYS_ : Y ≠ S_ := by omega
  have nS_Y : S_ ≠ Y := by omega
  clear eY eS_
  have BY := Lib.hid (BY0.out.upto.below hB0)
  clear BY0
  go_wp2_with (fail)
  go_at_call 11
  refine (FW.out _).mono ?_
  rintro e y1 ⟨rfl, hb⟩
  have HYk := Lib.hid (HY.out.later hb)
  have HSk := Lib.hid (HS.out.later hb)
  clear HY HS
  have HY := HYk
  clear HYk
  have HS := HSk
  clear HSk
  replace BY := Lib.hid (BY.out.later hb)
  have hBn := Below.go hB0 hb
  clear hB0 hb FW
  have hB0 := hBn
  clear hBn
  go_upto_region 2 with fail
  refine wp_region_lit ?_
  refine wpList_load_mid rfl 31 _ rfl Y 0 rfl (nums .u8 kf 32) _ HY.out.cell Try.underlying31 rfl (by kernel_rfl) ?_
  go_upto_region 3 with fail
  obtain ⟨y2, hW⟩ : ∃ y2, y2 = (y1.alloc (.cells (nums .u8 kf 32).toArray 31)) := ⟨_, rfl⟩
  have hBx : Below y1.heap.size y1 y2 := hW ▸ (Below.al (Below.refl _ _))
  have HO : Hid (Own y1.heap.size (nums .u8 kf 32) y2) := Lib.hid (hW ▸ (show Own y1.heap.size (nums .u8 kf 32) (y1.alloc (.cells (nums .u8 kf 32).toArray 31)) from Own.newAt (by simp)))
  rw [← hW]
  clear hW
  obtain ⟨O, eO⟩ : ∃ X, X = y1.heap.size := ⟨_, rfl⟩
  rw [← eO] at HO ⊢
  have Ow : y1.heap.size ≤ O := by omega
  clear eO
  have nOY : O ≠ Y := by have := HY.out.lt; omega
  have nYO : Y ≠ O := Ne.symm nOY
  have nOS_ : O ≠ S_ := by have := HS.out.lt; omega
  have nS_O : S_ ≠ O := Ne.symm nOS_
  have Ow2 : w.heap.size ≤ O := by have := hB0.size; omega
  clear Ow
  have Ow := Ow2
  clear Ow2
  have HYk := Lib.hid (HY.out.later hBx)
  have HSk := Lib.hid (HS.out.later hBx)
  clear HY HS
  have HY := HYk
  clear HYk
  have HS := HSk
  clear HSk
  replace BY := Lib.hid (BY.out.later hBx)
  have hB0n := Below.go hB0 hBx
  clear hB0 hBx
  have hB0 := hB0n
  clear hB0n
  refine wp_region_still_tail 2 (by kernel_rfl) (by kernel_rfl) ?_; simp only [List.take_succ_cons, List.take_zero, List.drop_succ_cons, List.drop_zero]; change wpStill _ _ (World.drew _) (fun a1 => wpList _ _ _ _ a1 (World.drew _)) _ _; repeat still_step
  refine wpStill_nil ?_
  refine wpList_copy rfl _ _ 22 rfl rfl rfl (copy_byt O 16 S_ 0 16 16 16 16 16 _ g _ rfl (HS.out.drew.has) (fun j hj => by have := HO.out.drew.free (16 + j) (by rw [nums_length]; omega); rwa [Nat.zero_add] at this)) ?_
  have XO := Lib.hid (Own.part (o := 16) (vs := nums .u8 g 16) HO.out.drew (by rw [nums_length, nums_length]; decide))
  rw [over_high] at XO
  have XB := Lib.hid (BytU.far (o := 16) (vs := nums .u8 g 16) BY.out.drew Ow)
  have XL := Lib.hid (Below.setCells hB0.drew Ow (nums .u8 g 16) 16)
  have XHY := Lib.hid (Own.far (o := 16) (vs := nums .u8 g 16) HY.out.drew nYO)
  have XHS := Lib.hid (Own.far (o := 16) (vs := nums .u8 g 16) HS.out.drew nS_O)
  clear HO BY hB0 HY HS
  generalize y2.drew.setCells O 16 (nums .u8 g 16) = y3 at *
  have HO := XO
  have BY := XB
  have hB0 := XL.out
  clear XO XB XL
  have HY := XHY
  clear XHY
  have HS := XHS
  clear XHS
  go_upto_region 5 with fail
  obtain ⟨y4, hW⟩ : ∃ y4, y4 = ((y3.alloc (.cells #[.int .u8 0, .int .u8 0, .int .u8 0, .int .u8 0, .int .u8 0, .int .u8 0, .int .u8 0, .int .u8 0, .int .u8 0, .int .u8 0, .int .u8 0, .int .u8 0, .int .u8 0, .int .u8 0, .int .u8 0, .int .u8 0, .int .u8 0, .int .u8 0, .int .u8 0, .int .u8 0, .int .u8 0, .int .u8 0, .int .u8 0, .int .u8 0, .int .u8 0, .int .u8 0, .int .u8 0, .int .u8 0, .int .u8 0, .int .u8 0, .int .u8 0, .int .u8 0] 31)).alloc (.cells #[.int .u8 0, .int .u8 0, .int .u8 0, .int .u8 0, .int .u8 0, .int .u8 0, .int .u8 0, .int .u8 0, .int .u8 0, .int .u8 0, .int .u8 0, .int .u8 0, .int .u8 0, .int .u8 0, .int .u8 0, .int .u8 0, .int .u8 0, .int .u8 0, .int .u8 0, .int .u8 0, .int .u8 0, .int .u8 0, .int .u8 0, .int .u8 0, .int .u8 0, .int .u8 0, .int .u8 0, .int .u8 0, .int .u8 0, .int .u8 0, .int .u8 0, .int .u8 0] 31)) := ⟨_, rfl⟩
  have hBx : Below y3.heap.size y3 y4 := hW ▸ (Below.al (Below.al (Below.refl _ _)))
  have HF : Hid (Own y3.heap.size (nums .u8 (fun _ => 0) 32) y4) := Lib.hid (hW ▸ (show Own y3.heap.size (nums .u8 (fun _ => 0) 32) (y3.alloc (.cells #[.int .u8 0, .int .u8 0, .int .u8 0, .int .u8 0, .int .u8 0, .int .u8 0, .int .u8 0, .int .u8 0, .int .u8 0, .int .u8 0, .int .u8 0, .int .u8 0, .int .u8 0, .int .u8 0, .int .u8 0, .int .u8 0, .int .u8 0, .int .u8 0, .int .u8 0, .int .u8 0, .int .u8 0, .int .u8 0, .int .u8 0, .int .u8 0, .int .u8 0, .int .u8 0, .int .u8 0, .int .u8 0, .int .u8 0, .int .u8 0, .int .u8 0, .int .u8 0] 31)) from Own.newAt (by simp)).alloc)
  have HV : Hid (Own (y3.heap.size + 1) (nums .u8 (fun _ => 0) 32) y4) := Lib.hid (hW ▸ (show Own (y3.heap.size + 1) (nums .u8 (fun _ => 0) 32) ((y3.alloc (.cells #[.int .u8 0, .int .u8 0, .int .u8 0, .int .u8 0, .int .u8 0, .int .u8 0, .int .u8 0, .int .u8 0, .int .u8 0, .int .u8 0, .int .u8 0, .int .u8 0, .int .u8 0, .int .u8 0, .int .u8 0, .int .u8 0, .int .u8 0, .int .u8 0, .int .u8 0, .int .u8 0, .int .u8 0, .int .u8 0, .int .u8 0, .int .u8 0, .int .u8 0, .int .u8 0, .int .u8 0, .int .u8 0, .int .u8 0, .int .u8 0, .int .u8 0, .int .u8 0] 31)).alloc (.cells #[.int .u8 0, .int .u8 0, .int .u8 0, .int .u8 0, .int .u8 0, .int .u8 0, .int .u8 0, .int .u8 0, .int .u8 0, .int .u8 0, .int .u8 0, .int .u8 0, .int .u8 0, .int .u8 0, .int .u8 0, .int .u8 0, .int .u8 0, .int .u8 0, .int .u8 0, .int .u8 0, .int .u8 0, .int .u8 0, .int .u8 0, .int .u8 0, .int .u8 0, .int .u8 0, .int .u8 0, .int .u8 0, .int .u8 0, .int .u8 0, .int .u8 0, .int .u8 0] 31)) from Own.newAt (by simp)))
  rw [← hW]
  clear hW
  obtain ⟨V, eV⟩ : ∃ X, X = (y3.heap.size + 1) := ⟨_, rfl⟩
  rw [← eV] at HV ⊢
  have Vw : y3.heap.size ≤ V := by omega
  obtain ⟨F, eF⟩ : ∃ X, X = y3.heap.size := ⟨_, rfl⟩
  rw [← eF] at HF ⊢
  have Fw : y3.heap.size ≤ F := by omega
  have nFV : F ≠ V := by omega
  have nVF : V ≠ F := by omega
  clear eF eV
  have nFY : F ≠ Y := by have := HY.out.lt; omega
  have nYF : Y ≠ F := Ne.symm nFY
  have nFS_ : F ≠ S_ := by have := HS.out.lt; omega
  have nS_F : S_ ≠ F := Ne.symm nFS_
  have nFO : F ≠ O := by have := HO.out.lt; omega
  have nOF : O ≠ F := Ne.symm nFO
  have Fw2 : w.heap.size ≤ F := by have := hB0.size; omega
  clear Fw
  have Fw := Fw2
  clear Fw2
  have nVY : V ≠ Y := by have := HY.out.lt; omega
  have nYV : Y ≠ V := Ne.symm nVY
  have nVS_ : V ≠ S_ := by have := HS.out.lt; omega
  have nS_V : S_ ≠ V := Ne.symm nVS_
  have nVO : V ≠ O := by have := HO.out.lt; omega
  have nOV : O ≠ V := Ne.symm nVO
  have Vw2 : w.heap.size ≤ V := by have := hB0.size; omega
  clear Vw
  have Vw := Vw2
  clear Vw2
  have HYk := Lib.hid (HY.out.later hBx)
  have HSk := Lib.hid (HS.out.later hBx)
  have HOk := Lib.hid (HO.out.later hBx)
  clear HY HS HO
  have HY := HYk
  clear HYk
  have HS := HSk
  clear HSk
  have HO := HOk
  clear HOk
  replace BY := Lib.hid (BY.out.later hBx)
  have hB0n := Below.go hB0 hBx
  clear hB0 hBx
  have hB0 := hB0n
  clear hB0n
  refine wp_region_still_tail 2 (by kernel_rfl) (by kernel_rfl) ?_; simp only [List.take_succ_cons, List.take_zero, List.drop_succ_cons, List.drop_zero]; change wpStill _ _ (World.drew _) (fun a1 => wpList _ _ _ _ a1 (World.drew _)) _ _; repeat still_step
  refine wpStill_nil ?_
  refine wpList_copy rfl _ _ 22 rfl rfl rfl (copy_byt F 0 Y 0 16 32 16 32 16 _ kf _ rfl (has_take HY.out.drew.has (show 16 ≤ 32 by decide)) (fun j hj => by have := HF.out.drew.free (0 + j) (by rw [nums_length]; omega); rwa [Nat.zero_add] at this)) ?_
  have XO := Lib.hid (Own.part (o := 0) (vs := nums .u8 kf 16) HF.out.drew (by rw [nums_length, nums_length]; decide))
  rw [over_half] at XO
  have XB := Lib.hid (BytU.far (o := 0) (vs := nums .u8 kf 16) BY.out.drew Fw)
  have XL := Lib.hid (Below.setCells hB0.drew Fw (nums .u8 kf 16) 0)
  have XHY := Lib.hid (Own.far (o := 0) (vs := nums .u8 kf 16) HY.out.drew nYF)
  have XHS := Lib.hid (Own.far (o := 0) (vs := nums .u8 kf 16) HS.out.drew nS_F)
  have XHO := Lib.hid (Own.far (o := 0) (vs := nums .u8 kf 16) HO.out.drew nOF)
  have XHV := Lib.hid (Own.far (o := 0) (vs := nums .u8 kf 16) HV.out.drew nVF)
  clear HF BY hB0 HY HS HO HV
  generalize y4.drew.setCells F 0 (nums .u8 kf 16) = y5 at *
  have HF := XO
  have BY := XB
  have hB0 := XL.out
  clear XO XB XL
  have HY := XHY
  clear XHY
  have HS := XHS
  clear XHS
  have HO := XHO
  clear XHO
  have HV := XHV
  clear XHV
  go_upto_region 6 with fail
  have HYH := Lib.hid (has_take HY.out.has (show 16 ≤ 32 by decide))
  refine wp_region_lit ?_
  refine wpList_plain rfl fun K_ hK => ?_
  go_simp
  refine hK _ _ ?_
  clear hK K_
  refine wpList_plain rfl fun K_ hK => ?_
  go_simp
  refine hK _ _ ?_
  clear hK K_
  refine wpList_load_mid rfl 23 _ rfl Y 0 rfl (nums .u8 kf 16) _ HYH.out.cell Try.underlying23 rfl (by kernel_rfl) ?_
  go_wp2_with (fail)
  go_at_call 13
  refine (CA.out _).mono ?_
  rintro e y6 ⟨rfl, hb⟩
  have HYk := Lib.hid (HY.out.later hb)
  have HSk := Lib.hid (HS.out.later hb)
  have HOk := Lib.hid (HO.out.later hb)
  have HFk := Lib.hid (HF.out.later hb)
  have HVk := Lib.hid (HV.out.later hb)
  clear HY HS HO HF HV
  have HY := HYk
  clear HYk
  have HS := HSk
  clear HSk
  have HO := HOk
  clear HOk
  have HF := HFk
  clear HFk
  have HV := HVk
  clear HVk
  replace BY := Lib.hid (BY.out.later hb)
  have hBn := Below.go hB0 hb
  clear hB0 hb
  have hB0 := hBn
  clear hBn
  clear HYH
  go_upto_region 7 with fail
  obtain ⟨y7, hW⟩ : ∃ y7, y7 = (y6.alloc (.cells (nums .u8 (clampF kf) 16).toArray 23)) := ⟨_, rfl⟩
  have hBx : Below y6.heap.size y6 y7 := hW ▸ (Below.al (Below.refl _ _))
  have HR : Hid (Own y6.heap.size (nums .u8 (clampF kf) 16) y7) := Lib.hid (hW ▸ (show Own y6.heap.size (nums .u8 (clampF kf) 16) (y6.alloc (.cells (nums .u8 (clampF kf) 16).toArray 23)) from Own.newAt (by simp)))
  rw [← hW]
  clear hW
  obtain ⟨R, eR⟩ : ∃ X, X = y6.heap.size := ⟨_, rfl⟩
  rw [← eR] at HR ⊢
  have Rw : y6.heap.size ≤ R := by omega
  clear eR
  have nRY : R ≠ Y := by have := HY.out.lt; omega
  have nYR : Y ≠ R := Ne.symm nRY
  have nRS_ : R ≠ S_ := by have := HS.out.lt; omega
  have nS_R : S_ ≠ R := Ne.symm nRS_
  have nRO : R ≠ O := by have := HO.out.lt; omega
  have nOR : O ≠ R := Ne.symm nRO
  have nRF : R ≠ F := by have := HF.out.lt; omega
  have nFR : F ≠ R := Ne.symm nRF
  have nRV : R ≠ V := by have := HV.out.lt; omega
  have nVR : V ≠ R := Ne.symm nRV
  have Rw2 : w.heap.size ≤ R := by have := hB0.size; omega
  clear Rw
  have Rw := Rw2
  clear Rw2
  have HYk := Lib.hid (HY.out.later hBx)
  have HSk := Lib.hid (HS.out.later hBx)
  have HOk := Lib.hid (HO.out.later hBx)
  have HFk := Lib.hid (HF.out.later hBx)
  have HVk := Lib.hid (HV.out.later hBx)
  clear HY HS HO HF HV
  have HY := HYk
  clear HYk
  have HS := HSk
  clear HSk
  have HO := HOk
  clear HOk
  have HF := HFk
  clear HFk
  have HV := HVk
  clear HVk
  replace BY := Lib.hid (BY.out.later hBx)
  have hB0n := Below.go hB0 hBx
  clear hB0 hBx
  have hB0 := hB0n
  clear hB0n
  refine wp_region_still_tail 2 (by kernel_rfl) (by kernel_rfl) ?_; simp only [List.take_succ_cons, List.take_zero, List.drop_succ_cons, List.drop_zero]; change wpStill _ _ (World.drew _) (fun a1 => wpList _ _ _ _ a1 (World.drew _)) _ _; repeat still_step
  refine wpStill_nil ?_
  refine wpList_copy rfl _ _ 22 rfl rfl rfl (copy_byt V 0 R 0 16 32 16 16 16 _ (clampF kf) _ rfl (HR.out.drew.has) (fun j hj => by have := HV.out.drew.free (0 + j) (by rw [nums_length]; omega); rwa [Nat.zero_add] at this)) ?_
  have XO := Lib.hid (Own.part (o := 0) (vs := nums .u8 (clampF kf) 16) HV.out.drew (by rw [nums_length, nums_length]; decide))
  rw [over_half] at XO
  have XB := Lib.hid (BytU.far (o := 0) (vs := nums .u8 (clampF kf) 16) BY.out.drew Vw)
  have XL := Lib.hid (Below.setCells hB0.drew Vw (nums .u8 (clampF kf) 16) 0)
  have XHY := Lib.hid (Own.far (o := 0) (vs := nums .u8 (clampF kf) 16) HY.out.drew nYV)
  have XHS := Lib.hid (Own.far (o := 0) (vs := nums .u8 (clampF kf) 16) HS.out.drew nS_V)
  have XHO := Lib.hid (Own.far (o := 0) (vs := nums .u8 (clampF kf) 16) HO.out.drew nOV)
  have XHF := Lib.hid (Own.far (o := 0) (vs := nums .u8 (clampF kf) 16) HF.out.drew nFV)
  have XHR := Lib.hid (Own.far (o := 0) (vs := nums .u8 (clampF kf) 16) HR.out.drew nRV)
  clear HV BY hB0 HY HS HO HF HR
  generalize y7.drew.setCells V 0 (nums .u8 (clampF kf) 16) = y8 at *
  have HV := XO
  have BY := XB
  have hB0 := XL.out
  clear XO XB XL
  have HY := XHY
  clear XHY
  have HS := XHS
  clear XHS
  have HO := XHO
  clear XHO
  have HF := XHF
  clear XHF
  have HR := XHR
  clear XHR
  go_upto_region 8 with fail
  refine wp_region_lit ?_
  refine wpList_load_mid rfl 31 _ rfl F 0 rfl (nums .u8 (halfs kf (fun _ => 0)) 32) _ HF.out.cell Try.underlying31 rfl (by kernel_rfl) ?_
  go_wp2_with (fail)
  obtain ⟨y9, hW⟩ : ∃ W, W = (y8.alloc (.cells #[.slice p N c] 22)) := ⟨_, rfl⟩
  have HL1 : Own y8.heap.size [.slice p N c] y9 := hW ▸ Own.newAt rfl
  have hBx : Below y8.heap.size y8 y9 := hW ▸ Below.al (Below.refl _ _)
  rw [← hW]
  clear hW
  go_at_call 16
  refine (T1.out _ _ HL1 (BY.out.later hBx).byt).mono ?_
  rintro e z1 ⟨rfl, hb⟩
  have hb2 := Below.go hBx hb
  clear HL1 hBx hb
  have HYk := Lib.hid (HY.out.later hb2)
  have HSk := Lib.hid (HS.out.later hb2)
  have HOk := Lib.hid (HO.out.later hb2)
  have HFk := Lib.hid (HF.out.later hb2)
  have HVk := Lib.hid (HV.out.later hb2)
  clear HY HS HO HF HV
  have HY := HYk
  clear HYk
  have HS := HSk
  clear HSk
  have HO := HOk
  clear HOk
  have HF := HFk
  clear HFk
  have HV := HVk
  clear HVk
  replace BY := Lib.hid (BY.out.later hb2)
  have hBn := Below.go hB0 hb2
  clear hB0 hb2 HR HF
  have hB0 := hBn
  clear hBn
  go_upto_region 9 with fail
  obtain ⟨z2, hW⟩ : ∃ z2, z2 = (z1.alloc (.cells (nums .u8 (byt t0) 16).toArray 23)) := ⟨_, rfl⟩
  have hBx : Below z1.heap.size z1 z2 := hW ▸ (Below.al (Below.refl _ _))
  have HBS : Hid (Own z1.heap.size (nums .u8 (byt t0) 16) z2) := Lib.hid (hW ▸ (show Own z1.heap.size (nums .u8 (byt t0) 16) (z1.alloc (.cells (nums .u8 (byt t0) 16).toArray 23)) from Own.newAt (by simp)))
  rw [← hW]
  clear hW
  obtain ⟨B_, eB_⟩ : ∃ X, X = z1.heap.size := ⟨_, rfl⟩
  rw [← eB_] at HBS ⊢
  have B_w : z1.heap.size ≤ B_ := by omega
  clear eB_
  have nB_Y : B_ ≠ Y := by have := HY.out.lt; omega
  have nYB_ : Y ≠ B_ := Ne.symm nB_Y
  have nB_S_ : B_ ≠ S_ := by have := HS.out.lt; omega
  have nS_B_ : S_ ≠ B_ := Ne.symm nB_S_
  have nB_O : B_ ≠ O := by have := HO.out.lt; omega
  have nOB_ : O ≠ B_ := Ne.symm nB_O
  have nB_V : B_ ≠ V := by have := HV.out.lt; omega
  have nVB_ : V ≠ B_ := Ne.symm nB_V
  have B_w2 : w.heap.size ≤ B_ := by have := hB0.size; omega
  clear B_w
  have B_w := B_w2
  clear B_w2
  have HYk := Lib.hid (HY.out.later hBx)
  have HSk := Lib.hid (HS.out.later hBx)
  have HOk := Lib.hid (HO.out.later hBx)
  have HVk := Lib.hid (HV.out.later hBx)
  clear HY HS HO HV
  have HY := HYk
  clear HYk
  have HS := HSk
  clear HSk
  have HO := HOk
  clear HOk
  have HV := HVk
  clear HVk
  replace BY := Lib.hid (BY.out.later hBx)
  have hB0n := Below.go hB0 hBx
  clear hB0 hBx
  have hB0 := hB0n
  clear hB0n
  have HY16 : Hid (Has Y 16 (nums .u8 (fun i => kf (16 + i)) 16) z2) := Lib.hid (has_drop HY.out.has (show 16 + 16 ≤ 32 by decide))
  refine wp_region_fun 32 (by kernel_rfl) (by kernel_rfl) rfl (fun s b => ⟨#[Value.agg (nums IntKind.u8 kf 32).toArray, Value.agg (nums IntKind.u8 g 16).toArray, Value.slice p N c, Value.pointer (some { block := Y, off := 0 }), Value.pointer (some { block := S_, off := 0 }), undef, s 6, Value.pointer (some { block := O, off := 0 }), Value.pointer (some { block := F, off := 0 }), Value.pointer (some { block := V, off := 0 }), Value.pointer (some { block := R, off := 0 }), Value.pointer (some { block := B_, off := 0 }), Value.slice p n c, Value.slice p N c, Value.agg (nums IntKind.u8 kf 32).toArray, Value.slice (some { block := O, off := 16 }) 16 16, Value.slice (some { block := S_, off := 0 }) 16 16, Value.int IntKind.i64 16, Value.slice (some { block := F, off := 0 }) 16 32, Value.slice (some { block := Y, off := 0 }) 16 32, Value.int IntKind.i64 16, Value.slice (some { block := Y, off := 0 }) 16 32, Value.pointer (some { block := Y, off := 0 }), Value.agg (nums IntKind.u8 kf 16).toArray, Value.agg (nums IntKind.u8 (clampF kf) 16).toArray, Value.slice (some { block := V, off := 0 }) 16 32, Value.slice (some { block := R, off := 0 }) 16 16, Value.int IntKind.i64 16, Value.agg (nums IntKind.u8 (halfs kf fun x => 0) 32).toArray, Value.slice p N c, Value.slice (some { block := y8.heap.size, off := 0 }) 1 1, Value.agg (nums IntKind.u8 (byt t0) 16).toArray, s 32, s 33, s 34, s 35, s 36, s 37, s 38, s 39, s 40, s 41, s 42, s 43, s 44, s 45, s 46, s 47, s 48, s 49, s 50, s 51, s 52, s 53, s 54, s 55, s 56, s 57, s 58, s 59, s 60, s 61, s 62], []⟩) (fun d s b w => (Below z2.heap.size z2 w) ∧ (d 0 = true → s 32 = .agg (nums .u8 (halfs (clampF kf) (fun _ => 0)) 32).toArray) ∧ (d 1 = true → s 33 = .slice p N c) ∧ (d 2 = true → s 34 = .slice (some ⟨(b 2), 0, none⟩) 1 1 ∧ z2.heap.size ≤ b 2) ∧ (d 2 = true → d 3 = false → Own (b 2) [.slice p N c] w) ∧ (d 3 = true → s 35 = .agg (nums .u8 (byt t0) 16).toArray) ∧ (d 4 = true → s 36 = .agg (nums .u8 (byt t0) 16).toArray) ∧ (d 5 = true → s 37 = .bool true) ∧ (d 6 = true → s 38 = .bool true) ∧ (d 7 = true → s 39 = .agg (nums .u8 (halfs kf g) 32).toArray) ∧ (d 8 = true → s 40 = .slice p N c) ∧ (d 9 = true → s 41 = .slice (some ⟨(b 9), 0, none⟩) 1 1 ∧ z2.heap.size ≤ b 9) ∧ (d 9 = true → d 10 = false → Own (b 9) [.slice p N c] w) ∧ (d 10 = true → s 42 = .agg (nums .u8 (byt t3) 16).toArray) ∧ (d 11 = true → s 43 = .agg (nums .u8 (byt t0) 16).toArray) ∧ (d 12 = true → s 44 = .agg (nums .u8 g 16).toArray) ∧ (d 13 = true → s 45 = .agg (nums .u8 g 16).toArray) ∧ (d 14 = true → s 46 = .bool true) ∧ (d 15 = true → s 47 = .bool true) ∧ (d 16 = true → s 48 = .bool true) ∧ (d 17 = true → s 49 = .agg (nums .u8 kf 32).toArray) ∧ (d 18 = true → s 50 = .slice p N c) ∧ (d 19 = true → s 51 = .slice (some ⟨(b 19), 0, none⟩) 1 1 ∧ z2.heap.size ≤ b 19) ∧ (d 19 = true → d 20 = false → Own (b 19) [.slice p N c] w) ∧ (d 20 = true → s 52 = .agg (nums .u8 (byt t4) 16).toArray) ∧ (d 21 = true → s 53 = .agg (nums .u8 (byt t0) 16).toArray) ∧ (d 22 = true → s 54 = .agg (nums .u8 (fun i => kf (16 + i)) 16).toArray) ∧ (d 23 = true → s 55 = .slice (some ⟨Y, 16, none⟩) 16 16) ∧ (d 24 = true → s 56 = .pointer (some ⟨Y, 16, none⟩)) ∧ (d 25 = true → s 57 = .agg (nums .u8 (fun i => kf (16 + i)) 16).toArray) ∧ (d 26 = true → s 58 = .bool true) ∧ (d 27 = true → s 59 = .bool true) ∧ (d 28 = true → s 60 = .bool true) ∧ (d 29 = true → s 61 = .bool true) ∧ (d 30 = true → s 62 = .bool true) ∧ (d 31 = true → s 6 = .bool true)) rfl ?h0x1 (?stx1 : StepsF _ _ _ _ 32 _ _ [0, 1, 2, 3, 4, 5, 6, 7, 8, 9, 10, 11, 12, 13, 14, 15, 16, 17, 18, 19, 20, 21, 22, 23, 24, 25, 26, 27, 28, 29, 30, 31]) ?dnx1
  case h0x1 => exact ⟨Below.drew (Below.refl _ _), (fun h => nomatch h), (fun h => nomatch h), (fun h => nomatch h), (fun h => nomatch h), (fun h => nomatch h), (fun h => nomatch h), (fun h => nomatch h), (fun h => nomatch h), (fun h => nomatch h), (fun h => nomatch h), (fun h => nomatch h), (fun h => nomatch h), (fun h => nomatch h), (fun h => nomatch h), (fun h => nomatch h), (fun h => nomatch h), (fun h => nomatch h), (fun h => nomatch h), (fun h => nomatch h), (fun h => nomatch h), (fun h => nomatch h), (fun h => nomatch h), (fun h => nomatch h), (fun h => nomatch h), (fun h => nomatch h), (fun h => nomatch h), (fun h => nomatch h), (fun h => nomatch h), (fun h => nomatch h), (fun h => nomatch h), (fun h => nomatch h), (fun h => nomatch h), (fun h => nomatch h), (fun h => nomatch h), (fun h => nomatch h)⟩
  case stx1 =>
    refine StepsF.cons (o := _) rfl (ws := []) (by kernel_rfl) (by decide) (fun d s b w hF hd hw K_ hK => ?_) ?_
    · have hB : Below z2.heap.size z2 w := (p0_ hF.out)
      refine step_load (by simp [Region.wanted]) 31 _ rfl V 0 rfl (nums .u8 (halfs (clampF kf) (fun _ => 0)) 32) _ (HV.out.later hB).cell Try.underlying31 rfl (by kernel_rfl) ?_
      exact hK.out (ups s 32 (.agg (nums .u8 (halfs (clampF kf) (fun _ => 0)) 32).toArray)) b _ ⟨hB, (fun _ => rfl), (p2_ hF.out), (p3_ hF.out), (p4_ hF.out), (p5_ hF.out), (p6_ hF.out), (p7_ hF.out), (p8_ hF.out), (p9_ hF.out), (p10_ hF.out), (p11_ hF.out), (p12_ hF.out), (p13_ hF.out), (p14_ hF.out), (p15_ hF.out), (p16_ hF.out), (p17_ hF.out), (p18_ hF.out), (p19_ hF.out), (p20_ hF.out), (p21_ hF.out), (p22_ hF.out), (p23_ hF.out), (p24_ hF.out), (p25_ hF.out), (p26_ hF.out), (p27_ hF.out), (p28_ hF.out), (p29_ hF.out), (p30_ hF.out), (p31_ hF.out), (p32_ hF.out), (p33_ hF.out), (p34_ hF.out), (q35_ hF.out)⟩
    refine StepsF.cons (o := _) rfl (ws := []) (by kernel_rfl) (by decide) (fun d s b w hF hd hw K_ hK => ?_) ?_
    · have hB : Below z2.heap.size z2 w := (p0_ hF.out)
      dsimp only
      go_simp
      exact hK.out (ups s 33 (.slice p N c)) b _ ⟨hB, (p1_ hF.out), (fun _ => rfl), (p3_ hF.out), (p4_ hF.out), (p5_ hF.out), (p6_ hF.out), (p7_ hF.out), (p8_ hF.out), (p9_ hF.out), (p10_ hF.out), (p11_ hF.out), (p12_ hF.out), (p13_ hF.out), (p14_ hF.out), (p15_ hF.out), (p16_ hF.out), (p17_ hF.out), (p18_ hF.out), (p19_ hF.out), (p20_ hF.out), (p21_ hF.out), (p22_ hF.out), (p23_ hF.out), (p24_ hF.out), (p25_ hF.out), (p26_ hF.out), (p27_ hF.out), (p28_ hF.out), (p29_ hF.out), (p30_ hF.out), (p31_ hF.out), (p32_ hF.out), (p33_ hF.out), (p34_ hF.out), (q35_ hF.out)⟩
    refine StepsF.cons (o := _) rfl (ws := [1]) (by kernel_rfl) (by decide) (fun d s b w hF hd hw K_ hK => ?_) ?_
    · have hB : Below z2.heap.size z2 w := (p0_ hF.out)
      have e1 : s 33 = .slice p N c := (p2_ hF.out) (hw 1 (by decide))
      dsimp only
      go_simp
      exact hK.out (ups (ups s 33 (.slice p N c)) 34 (.slice (some ⟨w.heap.size, 0, none⟩) 1 1)) (ups b 2 w.heap.size) _ ⟨(hB.alloc hB.size _), (p1_ hF.out), (fun _ => rfl), (fun _ => ⟨rfl, hB.size⟩), (fun _ _ => Own.newAt rfl), (p5_ hF.out), (p6_ hF.out), (p7_ hF.out), (p8_ hF.out), (p9_ hF.out), (p10_ hF.out), (p11_ hF.out), (fun h0 h1 => ((p12_ hF.out) h0 h1).alloc), (p13_ hF.out), (p14_ hF.out), (p15_ hF.out), (p16_ hF.out), (p17_ hF.out), (p18_ hF.out), (p19_ hF.out), (p20_ hF.out), (p21_ hF.out), (p22_ hF.out), (fun h0 h1 => ((p23_ hF.out) h0 h1).alloc), (p24_ hF.out), (p25_ hF.out), (p26_ hF.out), (p27_ hF.out), (p28_ hF.out), (p29_ hF.out), (p30_ hF.out), (p31_ hF.out), (p32_ hF.out), (p33_ hF.out), (p34_ hF.out), (q35_ hF.out)⟩
    refine StepsF.cons (o := _) rfl (ws := [0, 2]) (by kernel_rfl) (by decide) (fun d s b w hF hd hw K_ hK => ?_) ?_
    · have hB : Below z2.heap.size z2 w := (p0_ hF.out)
      have e0 : s 32 = .agg (nums .u8 (halfs (clampF kf) (fun _ => 0)) 32).toArray := (p1_ hF.out) (hw 0 (by decide))
      have e2 : s 34 = .slice (some ⟨(b 2), 0, none⟩) 1 1 := ((p3_ hF.out) (hw 2 (by decide))).1
      have le2 : z2.heap.size ≤ b 2 := ((p3_ hF.out) (hw 2 (by decide))).2
      dsimp only
      go_simp
      go_at_call 16
      refine (T2.out (b 2) _ (((p4_ hF.out) (hw 2 (by decide))) hd) (BY.out.later hB).byt).mono ?_
      rintro e w1 ⟨rfl, hb⟩
      exact hK.out (ups (ups (ups s 32 (.agg (nums .u8 (halfs (clampF kf) (fun _ => 0)) 32).toArray)) 34 (.slice (some ⟨(b 2), 0, none⟩) 1 1)) 35 (.agg (nums .u8 (byt t0) 16).toArray)) b _ ⟨(Below.go hB hb), (fun _ => rfl), (p2_ hF.out), (fun _ => ⟨rfl, le2⟩), (fun _ h => nomatch h), (fun _ => rfl), (p6_ hF.out), (p7_ hF.out), (p8_ hF.out), (p9_ hF.out), (p10_ hF.out), (p11_ hF.out), (fun h0 h1 => ((p12_ hF.out) h0 h1).later hb), (p13_ hF.out), (p14_ hF.out), (p15_ hF.out), (p16_ hF.out), (p17_ hF.out), (p18_ hF.out), (p19_ hF.out), (p20_ hF.out), (p21_ hF.out), (p22_ hF.out), (fun h0 h1 => ((p23_ hF.out) h0 h1).later hb), (p24_ hF.out), (p25_ hF.out), (p26_ hF.out), (p27_ hF.out), (p28_ hF.out), (p29_ hF.out), (p30_ hF.out), (p31_ hF.out), (p32_ hF.out), (p33_ hF.out), (p34_ hF.out), (q35_ hF.out)⟩
    refine StepsF.cons (o := _) rfl (ws := []) (by kernel_rfl) (by decide) (fun d s b w hF hd hw K_ hK => ?_) ?_
    · have hB : Below z2.heap.size z2 w := (p0_ hF.out)
      refine step_load (by simp [Region.wanted]) 23 _ rfl B_ 0 rfl (nums .u8 (byt t0) 16) _ (HBS.out.later hB).cell Try.underlying23 rfl (by kernel_rfl) ?_
      exact hK.out (ups s 36 (.agg (nums .u8 (byt t0) 16).toArray)) b _ ⟨hB, (p1_ hF.out), (p2_ hF.out), (p3_ hF.out), (p4_ hF.out), (p5_ hF.out), (fun _ => rfl), (p7_ hF.out), (p8_ hF.out), (p9_ hF.out), (p10_ hF.out), (p11_ hF.out), (p12_ hF.out), (p13_ hF.out), (p14_ hF.out), (p15_ hF.out), (p16_ hF.out), (p17_ hF.out), (p18_ hF.out), (p19_ hF.out), (p20_ hF.out), (p21_ hF.out), (p22_ hF.out), (p23_ hF.out), (p24_ hF.out), (p25_ hF.out), (p26_ hF.out), (p27_ hF.out), (p28_ hF.out), (p29_ hF.out), (p30_ hF.out), (p31_ hF.out), (p32_ hF.out), (p33_ hF.out), (p34_ hF.out), (q35_ hF.out)⟩
    refine StepsF.cons (o := _) rfl (ws := [3, 4]) (by kernel_rfl) (by decide) (fun d s b w hF hd hw K_ hK => ?_) ?_
    · have hB : Below z2.heap.size z2 w := (p0_ hF.out)
      have e3 : s 35 = .agg (nums .u8 (byt t0) 16).toArray := (p5_ hF.out) (hw 3 (by decide))
      have e4 : s 36 = .agg (nums .u8 (byt t0) 16).toArray := (p6_ hF.out) (hw 4 (by decide))
      dsimp only
      have hq := Q0.out w
      go_simp
      exact hK.out (ups (ups (ups s 35 (.agg (nums .u8 (byt t0) 16).toArray)) 36 (.agg (nums .u8 (byt t0) 16).toArray)) 37 (.bool true)) b _ ⟨hB, (p1_ hF.out), (p2_ hF.out), (p3_ hF.out), (p4_ hF.out), (fun _ => rfl), (fun _ => rfl), (fun _ => rfl), (p8_ hF.out), (p9_ hF.out), (p10_ hF.out), (p11_ hF.out), (p12_ hF.out), (p13_ hF.out), (p14_ hF.out), (p15_ hF.out), (p16_ hF.out), (p17_ hF.out), (p18_ hF.out), (p19_ hF.out), (p20_ hF.out), (p21_ hF.out), (p22_ hF.out), (p23_ hF.out), (p24_ hF.out), (p25_ hF.out), (p26_ hF.out), (p27_ hF.out), (p28_ hF.out), (p29_ hF.out), (p30_ hF.out), (p31_ hF.out), (p32_ hF.out), (p33_ hF.out), (p34_ hF.out), (q35_ hF.out)⟩
    refine StepsF.cons (o := _) rfl (ws := [5, 3]) (by kernel_rfl) (by decide) (fun d s b w hF hd hw K_ hK => ?_) ?_
    · have hB : Below z2.heap.size z2 w := (p0_ hF.out)
      have e3 : s 35 = .agg (nums .u8 (byt t0) 16).toArray := (p5_ hF.out) (hw 3 (by decide))
      have e5 : s 37 = .bool true := (p7_ hF.out) (hw 5 (by decide))
      dsimp only
      go_simp
      exact hK.out (ups (ups (ups s 35 (.agg (nums .u8 (byt t0) 16).toArray)) 37 (.bool true)) 38 (.bool true)) b _ ⟨hB, (p1_ hF.out), (p2_ hF.out), (p3_ hF.out), (p4_ hF.out), (fun _ => rfl), (p6_ hF.out), (fun _ => rfl), (fun _ => rfl), (p9_ hF.out), (p10_ hF.out), (p11_ hF.out), (p12_ hF.out), (p13_ hF.out), (p14_ hF.out), (p15_ hF.out), (p16_ hF.out), (p17_ hF.out), (p18_ hF.out), (p19_ hF.out), (p20_ hF.out), (p21_ hF.out), (p22_ hF.out), (p23_ hF.out), (p24_ hF.out), (p25_ hF.out), (p26_ hF.out), (p27_ hF.out), (p28_ hF.out), (p29_ hF.out), (p30_ hF.out), (p31_ hF.out), (p32_ hF.out), (p33_ hF.out), (p34_ hF.out), (q35_ hF.out)⟩
    refine StepsF.cons (o := _) rfl (ws := [6]) (by kernel_rfl) (by decide) (fun d s b w hF hd hw K_ hK => ?_) ?_
    · have hB : Below z2.heap.size z2 w := (p0_ hF.out)
      have e6 : s 38 = .bool true := (p8_ hF.out) (hw 6 (by decide))
      refine step_load (by simp [Region.wanted, yielded, e6]) 31 _ rfl O 0 rfl (nums .u8 (halfs kf g) 32) _ (HO.out.later hB).cell Try.underlying31 rfl (by kernel_rfl) ?_
      exact hK.out (ups s 39 (.agg (nums .u8 (halfs kf g) 32).toArray)) b _ ⟨hB, (p1_ hF.out), (p2_ hF.out), (p3_ hF.out), (p4_ hF.out), (p5_ hF.out), (p6_ hF.out), (p7_ hF.out), (p8_ hF.out), (fun _ => rfl), (p10_ hF.out), (p11_ hF.out), (p12_ hF.out), (p13_ hF.out), (p14_ hF.out), (p15_ hF.out), (p16_ hF.out), (p17_ hF.out), (p18_ hF.out), (p19_ hF.out), (p20_ hF.out), (p21_ hF.out), (p22_ hF.out), (p23_ hF.out), (p24_ hF.out), (p25_ hF.out), (p26_ hF.out), (p27_ hF.out), (p28_ hF.out), (p29_ hF.out), (p30_ hF.out), (p31_ hF.out), (p32_ hF.out), (p33_ hF.out), (p34_ hF.out), (q35_ hF.out)⟩
    refine StepsF.cons (o := _) rfl (ws := [6]) (by kernel_rfl) (by decide) (fun d s b w hF hd hw K_ hK => ?_) ?_
    · have hB : Below z2.heap.size z2 w := (p0_ hF.out)
      have e6 : s 38 = .bool true := (p8_ hF.out) (hw 6 (by decide))
      dsimp only
      go_simp
      exact hK.out (ups (ups s 38 (.bool true)) 40 (.slice p N c)) b _ ⟨hB, (p1_ hF.out), (p2_ hF.out), (p3_ hF.out), (p4_ hF.out), (p5_ hF.out), (p6_ hF.out), (p7_ hF.out), (fun _ => rfl), (p9_ hF.out), (fun _ => rfl), (p11_ hF.out), (p12_ hF.out), (p13_ hF.out), (p14_ hF.out), (p15_ hF.out), (p16_ hF.out), (p17_ hF.out), (p18_ hF.out), (p19_ hF.out), (p20_ hF.out), (p21_ hF.out), (p22_ hF.out), (p23_ hF.out), (p24_ hF.out), (p25_ hF.out), (p26_ hF.out), (p27_ hF.out), (p28_ hF.out), (p29_ hF.out), (p30_ hF.out), (p31_ hF.out), (p32_ hF.out), (p33_ hF.out), (p34_ hF.out), (q35_ hF.out)⟩
    refine StepsF.cons (o := _) rfl (ws := [8, 6]) (by kernel_rfl) (by decide) (fun d s b w hF hd hw K_ hK => ?_) ?_
    · have hB : Below z2.heap.size z2 w := (p0_ hF.out)
      have e6 : s 38 = .bool true := (p8_ hF.out) (hw 6 (by decide))
      have e8 : s 40 = .slice p N c := (p10_ hF.out) (hw 8 (by decide))
      dsimp only
      go_simp
      exact hK.out (ups (ups (ups s 38 (.bool true)) 40 (.slice p N c)) 41 (.slice (some ⟨w.heap.size, 0, none⟩) 1 1)) (ups b 9 w.heap.size) _ ⟨(hB.alloc hB.size _), (p1_ hF.out), (p2_ hF.out), (p3_ hF.out), (fun h0 h1 => ((p4_ hF.out) h0 h1).alloc), (p5_ hF.out), (p6_ hF.out), (p7_ hF.out), (fun _ => rfl), (p9_ hF.out), (fun _ => rfl), (fun _ => ⟨rfl, hB.size⟩), (fun _ _ => Own.newAt rfl), (p13_ hF.out), (p14_ hF.out), (p15_ hF.out), (p16_ hF.out), (p17_ hF.out), (p18_ hF.out), (p19_ hF.out), (p20_ hF.out), (p21_ hF.out), (p22_ hF.out), (fun h0 h1 => ((p23_ hF.out) h0 h1).alloc), (p24_ hF.out), (p25_ hF.out), (p26_ hF.out), (p27_ hF.out), (p28_ hF.out), (p29_ hF.out), (p30_ hF.out), (p31_ hF.out), (p32_ hF.out), (p33_ hF.out), (p34_ hF.out), (q35_ hF.out)⟩
    refine StepsF.cons (o := _) rfl (ws := [7, 9, 6, 6]) (by kernel_rfl) (by decide) (fun d s b w hF hd hw K_ hK => ?_) ?_
    · have hB : Below z2.heap.size z2 w := (p0_ hF.out)
      have e6 : s 38 = .bool true := (p8_ hF.out) (hw 6 (by decide))
      have e7 : s 39 = .agg (nums .u8 (halfs kf g) 32).toArray := (p9_ hF.out) (hw 7 (by decide))
      have e9 : s 41 = .slice (some ⟨(b 9), 0, none⟩) 1 1 := ((p11_ hF.out) (hw 9 (by decide))).1
      have le9 : z2.heap.size ≤ b 9 := ((p11_ hF.out) (hw 9 (by decide))).2
      dsimp only
      go_simp
      go_at_call 16
      refine (T3.out (b 9) _ (((p12_ hF.out) (hw 9 (by decide))) hd) (BY.out.later hB).byt).mono ?_
      rintro e w1 ⟨rfl, hb⟩
      exact hK.out (ups (ups (ups (ups s 38 (.bool true)) 39 (.agg (nums .u8 (halfs kf g) 32).toArray)) 41 (.slice (some ⟨(b 9), 0, none⟩) 1 1)) 42 (.agg (nums .u8 (byt t3) 16).toArray)) b _ ⟨(Below.go hB hb), (p1_ hF.out), (p2_ hF.out), (p3_ hF.out), (fun h0 h1 => ((p4_ hF.out) h0 h1).later hb), (p5_ hF.out), (p6_ hF.out), (p7_ hF.out), (fun _ => rfl), (fun _ => rfl), (p10_ hF.out), (fun _ => ⟨rfl, le9⟩), (fun _ h => nomatch h), (fun _ => rfl), (p14_ hF.out), (p15_ hF.out), (p16_ hF.out), (p17_ hF.out), (p18_ hF.out), (p19_ hF.out), (p20_ hF.out), (p21_ hF.out), (p22_ hF.out), (fun h0 h1 => ((p23_ hF.out) h0 h1).later hb), (p24_ hF.out), (p25_ hF.out), (p26_ hF.out), (p27_ hF.out), (p28_ hF.out), (p29_ hF.out), (p30_ hF.out), (p31_ hF.out), (p32_ hF.out), (p33_ hF.out), (p34_ hF.out), (q35_ hF.out)⟩
    refine StepsF.cons (o := _) rfl (ws := [6]) (by kernel_rfl) (by decide) (fun d s b w hF hd hw K_ hK => ?_) ?_
    · have hB : Below z2.heap.size z2 w := (p0_ hF.out)
      have e6 : s 38 = .bool true := (p8_ hF.out) (hw 6 (by decide))
      refine step_load (by simp [Region.wanted, yielded, e6]) 23 _ rfl B_ 0 rfl (nums .u8 (byt t0) 16) _ (HBS.out.later hB).cell Try.underlying23 rfl (by kernel_rfl) ?_
      exact hK.out (ups s 43 (.agg (nums .u8 (byt t0) 16).toArray)) b _ ⟨hB, (p1_ hF.out), (p2_ hF.out), (p3_ hF.out), (p4_ hF.out), (p5_ hF.out), (p6_ hF.out), (p7_ hF.out), (p8_ hF.out), (p9_ hF.out), (p10_ hF.out), (p11_ hF.out), (p12_ hF.out), (p13_ hF.out), (fun _ => rfl), (p15_ hF.out), (p16_ hF.out), (p17_ hF.out), (p18_ hF.out), (p19_ hF.out), (p20_ hF.out), (p21_ hF.out), (p22_ hF.out), (p23_ hF.out), (p24_ hF.out), (p25_ hF.out), (p26_ hF.out), (p27_ hF.out), (p28_ hF.out), (p29_ hF.out), (p30_ hF.out), (p31_ hF.out), (p32_ hF.out), (p33_ hF.out), (p34_ hF.out), (q35_ hF.out)⟩
    refine StepsF.cons (o := _) rfl (ws := [10, 11, 10, 6]) (by kernel_rfl) (by decide) (fun d s b w hF hd hw K_ hK => ?_) ?_
    · have hB : Below z2.heap.size z2 w := (p0_ hF.out)
      have e6 : s 38 = .bool true := (p8_ hF.out) (hw 6 (by decide))
      have e10 : s 42 = .agg (nums .u8 (byt t3) 16).toArray := (p13_ hF.out) (hw 10 (by decide))
      have e11 : s 43 = .agg (nums .u8 (byt t0) 16).toArray := (p14_ hF.out) (hw 11 (by decide))
      dsimp only
      go_simp
      go_at_call 23
      refine (L3.out _).mono ?_
      rintro e w1 ⟨rfl, hb⟩
      exact hK.out (ups (ups (ups (ups s 38 (.bool true)) 42 (.agg (nums .u8 (byt t3) 16).toArray)) 43 (.agg (nums .u8 (byt t0) 16).toArray)) 44 (.agg (nums .u8 g 16).toArray)) b _ ⟨(Below.go hB hb), (p1_ hF.out), (p2_ hF.out), (p3_ hF.out), (fun h0 h1 => ((p4_ hF.out) h0 h1).later hb), (p5_ hF.out), (p6_ hF.out), (p7_ hF.out), (fun _ => rfl), (p9_ hF.out), (p10_ hF.out), (p11_ hF.out), (fun h0 h1 => ((p12_ hF.out) h0 h1).later hb), (fun _ => rfl), (fun _ => rfl), (fun _ => rfl), (p16_ hF.out), (p17_ hF.out), (p18_ hF.out), (p19_ hF.out), (p20_ hF.out), (p21_ hF.out), (p22_ hF.out), (fun h0 h1 => ((p23_ hF.out) h0 h1).later hb), (p24_ hF.out), (p25_ hF.out), (p26_ hF.out), (p27_ hF.out), (p28_ hF.out), (p29_ hF.out), (p30_ hF.out), (p31_ hF.out), (p32_ hF.out), (p33_ hF.out), (p34_ hF.out), (q35_ hF.out)⟩
    refine StepsF.cons (o := _) rfl (ws := [6]) (by kernel_rfl) (by decide) (fun d s b w hF hd hw K_ hK => ?_) ?_
    · have hB : Below z2.heap.size z2 w := (p0_ hF.out)
      have e6 : s 38 = .bool true := (p8_ hF.out) (hw 6 (by decide))
      refine step_load (by simp [Region.wanted, yielded, e6]) 23 _ rfl S_ 0 rfl (nums .u8 g 16) _ (HS.out.later hB).cell Try.underlying23 rfl (by kernel_rfl) ?_
      exact hK.out (ups s 45 (.agg (nums .u8 g 16).toArray)) b _ ⟨hB, (p1_ hF.out), (p2_ hF.out), (p3_ hF.out), (p4_ hF.out), (p5_ hF.out), (p6_ hF.out), (p7_ hF.out), (p8_ hF.out), (p9_ hF.out), (p10_ hF.out), (p11_ hF.out), (p12_ hF.out), (p13_ hF.out), (p14_ hF.out), (p15_ hF.out), (fun _ => rfl), (p17_ hF.out), (p18_ hF.out), (p19_ hF.out), (p20_ hF.out), (p21_ hF.out), (p22_ hF.out), (p23_ hF.out), (p24_ hF.out), (p25_ hF.out), (p26_ hF.out), (p27_ hF.out), (p28_ hF.out), (p29_ hF.out), (p30_ hF.out), (p31_ hF.out), (p32_ hF.out), (p33_ hF.out), (p34_ hF.out), (q35_ hF.out)⟩
    refine StepsF.cons (o := _) rfl (ws := [12, 13, 6]) (by kernel_rfl) (by decide) (fun d s b w hF hd hw K_ hK => ?_) ?_
    · have hB : Below z2.heap.size z2 w := (p0_ hF.out)
      have e6 : s 38 = .bool true := (p8_ hF.out) (hw 6 (by decide))
      have e12 : s 44 = .agg (nums .u8 g 16).toArray := (p15_ hF.out) (hw 12 (by decide))
      have e13 : s 45 = .agg (nums .u8 g 16).toArray := (p16_ hF.out) (hw 13 (by decide))
      dsimp only
      have hq := Q1.out w
      go_simp
      exact hK.out (ups (ups (ups (ups s 38 (.bool true)) 44 (.agg (nums .u8 g 16).toArray)) 45 (.agg (nums .u8 g 16).toArray)) 46 (.bool true)) b _ ⟨hB, (p1_ hF.out), (p2_ hF.out), (p3_ hF.out), (p4_ hF.out), (p5_ hF.out), (p6_ hF.out), (p7_ hF.out), (fun _ => rfl), (p9_ hF.out), (p10_ hF.out), (p11_ hF.out), (p12_ hF.out), (p13_ hF.out), (p14_ hF.out), (fun _ => rfl), (fun _ => rfl), (fun _ => rfl), (p18_ hF.out), (p19_ hF.out), (p20_ hF.out), (p21_ hF.out), (p22_ hF.out), (p23_ hF.out), (p24_ hF.out), (p25_ hF.out), (p26_ hF.out), (p27_ hF.out), (p28_ hF.out), (p29_ hF.out), (p30_ hF.out), (p31_ hF.out), (p32_ hF.out), (p33_ hF.out), (p34_ hF.out), (q35_ hF.out)⟩
    refine StepsF.cons (o := _) rfl (ws := [6, 14]) (by kernel_rfl) (by decide) (fun d s b w hF hd hw K_ hK => ?_) ?_
    · have hB : Below z2.heap.size z2 w := (p0_ hF.out)
      have e6 : s 38 = .bool true := (p8_ hF.out) (hw 6 (by decide))
      have e14 : s 46 = .bool true := (p17_ hF.out) (hw 14 (by decide))
      dsimp only
      go_simp
      exact hK.out (ups (ups (ups s 38 (.bool true)) 46 (.bool true)) 47 (.bool true)) b _ ⟨hB, (p1_ hF.out), (p2_ hF.out), (p3_ hF.out), (p4_ hF.out), (p5_ hF.out), (p6_ hF.out), (p7_ hF.out), (fun _ => rfl), (p9_ hF.out), (p10_ hF.out), (p11_ hF.out), (p12_ hF.out), (p13_ hF.out), (p14_ hF.out), (p15_ hF.out), (p16_ hF.out), (fun _ => rfl), (fun _ => rfl), (p19_ hF.out), (p20_ hF.out), (p21_ hF.out), (p22_ hF.out), (p23_ hF.out), (p24_ hF.out), (p25_ hF.out), (p26_ hF.out), (p27_ hF.out), (p28_ hF.out), (p29_ hF.out), (p30_ hF.out), (p31_ hF.out), (p32_ hF.out), (p33_ hF.out), (p34_ hF.out), (q35_ hF.out)⟩
    refine StepsF.cons (o := _) rfl (ws := [15, 12]) (by kernel_rfl) (by decide) (fun d s b w hF hd hw K_ hK => ?_) ?_
    · have hB : Below z2.heap.size z2 w := (p0_ hF.out)
      have e12 : s 44 = .agg (nums .u8 g 16).toArray := (p15_ hF.out) (hw 12 (by decide))
      have e15 : s 47 = .bool true := (p18_ hF.out) (hw 15 (by decide))
      dsimp only
      go_simp
      exact hK.out (ups (ups (ups s 44 (.agg (nums .u8 g 16).toArray)) 47 (.bool true)) 48 (.bool true)) b _ ⟨hB, (p1_ hF.out), (p2_ hF.out), (p3_ hF.out), (p4_ hF.out), (p5_ hF.out), (p6_ hF.out), (p7_ hF.out), (p8_ hF.out), (p9_ hF.out), (p10_ hF.out), (p11_ hF.out), (p12_ hF.out), (p13_ hF.out), (p14_ hF.out), (fun _ => rfl), (p16_ hF.out), (p17_ hF.out), (fun _ => rfl), (fun _ => rfl), (p20_ hF.out), (p21_ hF.out), (p22_ hF.out), (p23_ hF.out), (p24_ hF.out), (p25_ hF.out), (p26_ hF.out), (p27_ hF.out), (p28_ hF.out), (p29_ hF.out), (p30_ hF.out), (p31_ hF.out), (p32_ hF.out), (p33_ hF.out), (p34_ hF.out), (q35_ hF.out)⟩
    refine StepsF.cons (o := _) rfl (ws := [16]) (by kernel_rfl) (by decide) (fun d s b w hF hd hw K_ hK => ?_) ?_
    · have hB : Below z2.heap.size z2 w := (p0_ hF.out)
      have e16 : s 48 = .bool true := (p19_ hF.out) (hw 16 (by decide))
      refine step_load (by simp [Region.wanted, yielded, e16]) 31 _ rfl Y 0 rfl (nums .u8 kf 32) _ (HY.out.later hB).cell Try.underlying31 rfl (by kernel_rfl) ?_
      exact hK.out (ups s 49 (.agg (nums .u8 kf 32).toArray)) b _ ⟨hB, (p1_ hF.out), (p2_ hF.out), (p3_ hF.out), (p4_ hF.out), (p5_ hF.out), (p6_ hF.out), (p7_ hF.out), (p8_ hF.out), (p9_ hF.out), (p10_ hF.out), (p11_ hF.out), (p12_ hF.out), (p13_ hF.out), (p14_ hF.out), (p15_ hF.out), (p16_ hF.out), (p17_ hF.out), (p18_ hF.out), (p19_ hF.out), (fun _ => rfl), (p21_ hF.out), (p22_ hF.out), (p23_ hF.out), (p24_ hF.out), (p25_ hF.out), (p26_ hF.out), (p27_ hF.out), (p28_ hF.out), (p29_ hF.out), (p30_ hF.out), (p31_ hF.out), (p32_ hF.out), (p33_ hF.out), (p34_ hF.out), (q35_ hF.out)⟩
    refine StepsF.cons (o := _) rfl (ws := [16]) (by kernel_rfl) (by decide) (fun d s b w hF hd hw K_ hK => ?_) ?_
    · have hB : Below z2.heap.size z2 w := (p0_ hF.out)
      have e16 : s 48 = .bool true := (p19_ hF.out) (hw 16 (by decide))
      dsimp only
      go_simp
      exact hK.out (ups (ups s 48 (.bool true)) 50 (.slice p N c)) b _ ⟨hB, (p1_ hF.out), (p2_ hF.out), (p3_ hF.out), (p4_ hF.out), (p5_ hF.out), (p6_ hF.out), (p7_ hF.out), (p8_ hF.out), (p9_ hF.out), (p10_ hF.out), (p11_ hF.out), (p12_ hF.out), (p13_ hF.out), (p14_ hF.out), (p15_ hF.out), (p16_ hF.out), (p17_ hF.out), (p18_ hF.out), (fun _ => rfl), (p20_ hF.out), (fun _ => rfl), (p22_ hF.out), (p23_ hF.out), (p24_ hF.out), (p25_ hF.out), (p26_ hF.out), (p27_ hF.out), (p28_ hF.out), (p29_ hF.out), (p30_ hF.out), (p31_ hF.out), (p32_ hF.out), (p33_ hF.out), (p34_ hF.out), (q35_ hF.out)⟩
    refine StepsF.cons (o := _) rfl (ws := [18, 16]) (by kernel_rfl) (by decide) (fun d s b w hF hd hw K_ hK => ?_) ?_
    · have hB : Below z2.heap.size z2 w := (p0_ hF.out)
      have e16 : s 48 = .bool true := (p19_ hF.out) (hw 16 (by decide))
      have e18 : s 50 = .slice p N c := (p21_ hF.out) (hw 18 (by decide))
      dsimp only
      go_simp
      exact hK.out (ups (ups (ups s 48 (.bool true)) 50 (.slice p N c)) 51 (.slice (some ⟨w.heap.size, 0, none⟩) 1 1)) (ups b 19 w.heap.size) _ ⟨(hB.alloc hB.size _), (p1_ hF.out), (p2_ hF.out), (p3_ hF.out), (fun h0 h1 => ((p4_ hF.out) h0 h1).alloc), (p5_ hF.out), (p6_ hF.out), (p7_ hF.out), (p8_ hF.out), (p9_ hF.out), (p10_ hF.out), (p11_ hF.out), (fun h0 h1 => ((p12_ hF.out) h0 h1).alloc), (p13_ hF.out), (p14_ hF.out), (p15_ hF.out), (p16_ hF.out), (p17_ hF.out), (p18_ hF.out), (fun _ => rfl), (p20_ hF.out), (fun _ => rfl), (fun _ => ⟨rfl, hB.size⟩), (fun _ _ => Own.newAt rfl), (p24_ hF.out), (p25_ hF.out), (p26_ hF.out), (p27_ hF.out), (p28_ hF.out), (p29_ hF.out), (p30_ hF.out), (p31_ hF.out), (p32_ hF.out), (p33_ hF.out), (p34_ hF.out), (q35_ hF.out)⟩
    refine StepsF.cons (o := _) rfl (ws := [17, 19, 16, 16]) (by kernel_rfl) (by decide) (fun d s b w hF hd hw K_ hK => ?_) ?_
    · have hB : Below z2.heap.size z2 w := (p0_ hF.out)
      have e16 : s 48 = .bool true := (p19_ hF.out) (hw 16 (by decide))
      have e17 : s 49 = .agg (nums .u8 kf 32).toArray := (p20_ hF.out) (hw 17 (by decide))
      have e19 : s 51 = .slice (some ⟨(b 19), 0, none⟩) 1 1 := ((p22_ hF.out) (hw 19 (by decide))).1
      have le19 : z2.heap.size ≤ b 19 := ((p22_ hF.out) (hw 19 (by decide))).2
      dsimp only
      go_simp
      go_at_call 16
      refine (T4.out (b 19) _ (((p23_ hF.out) (hw 19 (by decide))) hd) (BY.out.later hB).byt).mono ?_
      rintro e w1 ⟨rfl, hb⟩
      exact hK.out (ups (ups (ups (ups s 48 (.bool true)) 49 (.agg (nums .u8 kf 32).toArray)) 51 (.slice (some ⟨(b 19), 0, none⟩) 1 1)) 52 (.agg (nums .u8 (byt t4) 16).toArray)) b _ ⟨(Below.go hB hb), (p1_ hF.out), (p2_ hF.out), (p3_ hF.out), (fun h0 h1 => ((p4_ hF.out) h0 h1).later hb), (p5_ hF.out), (p6_ hF.out), (p7_ hF.out), (p8_ hF.out), (p9_ hF.out), (p10_ hF.out), (p11_ hF.out), (fun h0 h1 => ((p12_ hF.out) h0 h1).later hb), (p13_ hF.out), (p14_ hF.out), (p15_ hF.out), (p16_ hF.out), (p17_ hF.out), (p18_ hF.out), (fun _ => rfl), (fun _ => rfl), (p21_ hF.out), (fun _ => ⟨rfl, le19⟩), (fun _ h => nomatch h), (fun _ => rfl), (p25_ hF.out), (p26_ hF.out), (p27_ hF.out), (p28_ hF.out), (p29_ hF.out), (p30_ hF.out), (p31_ hF.out), (p32_ hF.out), (p33_ hF.out), (p34_ hF.out), (q35_ hF.out)⟩
    refine StepsF.cons (o := _) rfl (ws := [16]) (by kernel_rfl) (by decide) (fun d s b w hF hd hw K_ hK => ?_) ?_
    · have hB : Below z2.heap.size z2 w := (p0_ hF.out)
      have e16 : s 48 = .bool true := (p19_ hF.out) (hw 16 (by decide))
      refine step_load (by simp [Region.wanted, yielded, e16]) 23 _ rfl B_ 0 rfl (nums .u8 (byt t0) 16) _ (HBS.out.later hB).cell Try.underlying23 rfl (by kernel_rfl) ?_
      exact hK.out (ups s 53 (.agg (nums .u8 (byt t0) 16).toArray)) b _ ⟨hB, (p1_ hF.out), (p2_ hF.out), (p3_ hF.out), (p4_ hF.out), (p5_ hF.out), (p6_ hF.out), (p7_ hF.out), (p8_ hF.out), (p9_ hF.out), (p10_ hF.out), (p11_ hF.out), (p12_ hF.out), (p13_ hF.out), (p14_ hF.out), (p15_ hF.out), (p16_ hF.out), (p17_ hF.out), (p18_ hF.out), (p19_ hF.out), (p20_ hF.out), (p21_ hF.out), (p22_ hF.out), (p23_ hF.out), (p24_ hF.out), (fun _ => rfl), (p26_ hF.out), (p27_ hF.out), (p28_ hF.out), (p29_ hF.out), (p30_ hF.out), (p31_ hF.out), (p32_ hF.out), (p33_ hF.out), (p34_ hF.out), (q35_ hF.out)⟩
    refine StepsF.cons (o := _) rfl (ws := [20, 21, 20, 16]) (by kernel_rfl) (by decide) (fun d s b w hF hd hw K_ hK => ?_) ?_
    · have hB : Below z2.heap.size z2 w := (p0_ hF.out)
      have e16 : s 48 = .bool true := (p19_ hF.out) (hw 16 (by decide))
      have e20 : s 52 = .agg (nums .u8 (byt t4) 16).toArray := (p24_ hF.out) (hw 20 (by decide))
      have e21 : s 53 = .agg (nums .u8 (byt t0) 16).toArray := (p25_ hF.out) (hw 21 (by decide))
      dsimp only
      go_simp
      go_at_call 23
      refine (L4.out _).mono ?_
      rintro e w1 ⟨rfl, hb⟩
      exact hK.out (ups (ups (ups (ups s 48 (.bool true)) 52 (.agg (nums .u8 (byt t4) 16).toArray)) 53 (.agg (nums .u8 (byt t0) 16).toArray)) 54 (.agg (nums .u8 (fun i => kf (16 + i)) 16).toArray)) b _ ⟨(Below.go hB hb), (p1_ hF.out), (p2_ hF.out), (p3_ hF.out), (fun h0 h1 => ((p4_ hF.out) h0 h1).later hb), (p5_ hF.out), (p6_ hF.out), (p7_ hF.out), (p8_ hF.out), (p9_ hF.out), (p10_ hF.out), (p11_ hF.out), (fun h0 h1 => ((p12_ hF.out) h0 h1).later hb), (p13_ hF.out), (p14_ hF.out), (p15_ hF.out), (p16_ hF.out), (p17_ hF.out), (p18_ hF.out), (fun _ => rfl), (p20_ hF.out), (p21_ hF.out), (p22_ hF.out), (fun h0 h1 => ((p23_ hF.out) h0 h1).later hb), (fun _ => rfl), (fun _ => rfl), (fun _ => rfl), (p27_ hF.out), (p28_ hF.out), (p29_ hF.out), (p30_ hF.out), (p31_ hF.out), (p32_ hF.out), (p33_ hF.out), (p34_ hF.out), (q35_ hF.out)⟩
    refine StepsF.cons (o := _) rfl (ws := [16]) (by kernel_rfl) (by decide) (fun d s b w hF hd hw K_ hK => ?_) ?_
    · have hB : Below z2.heap.size z2 w := (p0_ hF.out)
      have e16 : s 48 = .bool true := (p19_ hF.out) (hw 16 (by decide))
      dsimp only
      go_simp
      exact hK.out (ups (ups s 48 (.bool true)) 55 (.slice (some ⟨Y, 16, none⟩) 16 16)) b _ ⟨hB, (p1_ hF.out), (p2_ hF.out), (p3_ hF.out), (p4_ hF.out), (p5_ hF.out), (p6_ hF.out), (p7_ hF.out), (p8_ hF.out), (p9_ hF.out), (p10_ hF.out), (p11_ hF.out), (p12_ hF.out), (p13_ hF.out), (p14_ hF.out), (p15_ hF.out), (p16_ hF.out), (p17_ hF.out), (p18_ hF.out), (fun _ => rfl), (p20_ hF.out), (p21_ hF.out), (p22_ hF.out), (p23_ hF.out), (p24_ hF.out), (p25_ hF.out), (p26_ hF.out), (fun _ => rfl), (p28_ hF.out), (p29_ hF.out), (p30_ hF.out), (p31_ hF.out), (p32_ hF.out), (p33_ hF.out), (p34_ hF.out), (q35_ hF.out)⟩
    refine StepsF.cons (o := _) rfl (ws := [23, 16]) (by kernel_rfl) (by decide) (fun d s b w hF hd hw K_ hK => ?_) ?_
    · have hB : Below z2.heap.size z2 w := (p0_ hF.out)
      have e16 : s 48 = .bool true := (p19_ hF.out) (hw 16 (by decide))
      have e23 : s 55 = .slice (some ⟨Y, 16, none⟩) 16 16 := (p27_ hF.out) (hw 23 (by decide))
      dsimp only
      go_simp
      exact hK.out (ups (ups (ups s 48 (.bool true)) 55 (.slice (some ⟨Y, 16, none⟩) 16 16)) 56 (.pointer (some ⟨Y, 16, none⟩))) b _ ⟨hB, (p1_ hF.out), (p2_ hF.out), (p3_ hF.out), (p4_ hF.out), (p5_ hF.out), (p6_ hF.out), (p7_ hF.out), (p8_ hF.out), (p9_ hF.out), (p10_ hF.out), (p11_ hF.out), (p12_ hF.out), (p13_ hF.out), (p14_ hF.out), (p15_ hF.out), (p16_ hF.out), (p17_ hF.out), (p18_ hF.out), (fun _ => rfl), (p20_ hF.out), (p21_ hF.out), (p22_ hF.out), (p23_ hF.out), (p24_ hF.out), (p25_ hF.out), (p26_ hF.out), (fun _ => rfl), (fun _ => rfl), (p29_ hF.out), (p30_ hF.out), (p31_ hF.out), (p32_ hF.out), (p33_ hF.out), (p34_ hF.out), (q35_ hF.out)⟩
    refine StepsF.cons (o := _) rfl (ws := [24, 16]) (by kernel_rfl) (by decide) (fun d s b w hF hd hw K_ hK => ?_) ?_
    · have hB : Below z2.heap.size z2 w := (p0_ hF.out)
      have e16 : s 48 = .bool true := (p19_ hF.out) (hw 16 (by decide))
      have e24 : s 56 = .pointer (some ⟨Y, 16, none⟩) := (p28_ hF.out) (hw 24 (by decide))
      refine step_load (by simp [Region.wanted, yielded, e16]) 23 _ rfl Y 16 e24 (nums .u8 (fun i => kf (16 + i)) 16) _ (HY16.out.later hB).cell Try.underlying23 rfl (by kernel_rfl) ?_
      exact hK.out (ups s 57 (.agg (nums .u8 (fun i => kf (16 + i)) 16).toArray)) b _ ⟨hB, (p1_ hF.out), (p2_ hF.out), (p3_ hF.out), (p4_ hF.out), (p5_ hF.out), (p6_ hF.out), (p7_ hF.out), (p8_ hF.out), (p9_ hF.out), (p10_ hF.out), (p11_ hF.out), (p12_ hF.out), (p13_ hF.out), (p14_ hF.out), (p15_ hF.out), (p16_ hF.out), (p17_ hF.out), (p18_ hF.out), (p19_ hF.out), (p20_ hF.out), (p21_ hF.out), (p22_ hF.out), (p23_ hF.out), (p24_ hF.out), (p25_ hF.out), (p26_ hF.out), (p27_ hF.out), (p28_ hF.out), (fun _ => rfl), (p30_ hF.out), (p31_ hF.out), (p32_ hF.out), (p33_ hF.out), (p34_ hF.out), (q35_ hF.out)⟩
    refine StepsF.cons (o := _) rfl (ws := [22, 25, 16]) (by kernel_rfl) (by decide) (fun d s b w hF hd hw K_ hK => ?_) ?_
    · have hB : Below z2.heap.size z2 w := (p0_ hF.out)
      have e16 : s 48 = .bool true := (p19_ hF.out) (hw 16 (by decide))
      have e22 : s 54 = .agg (nums .u8 (fun i => kf (16 + i)) 16).toArray := (p26_ hF.out) (hw 22 (by decide))
      have e25 : s 57 = .agg (nums .u8 (fun i => kf (16 + i)) 16).toArray := (p29_ hF.out) (hw 25 (by decide))
      dsimp only
      have hq := Q2.out w
      go_simp
      exact hK.out (ups (ups (ups (ups s 48 (.bool true)) 54 (.agg (nums .u8 (fun i => kf (16 + i)) 16).toArray)) 57 (.agg (nums .u8 (fun i => kf (16 + i)) 16).toArray)) 58 (.bool true)) b _ ⟨hB, (p1_ hF.out), (p2_ hF.out), (p3_ hF.out), (p4_ hF.out), (p5_ hF.out), (p6_ hF.out), (p7_ hF.out), (p8_ hF.out), (p9_ hF.out), (p10_ hF.out), (p11_ hF.out), (p12_ hF.out), (p13_ hF.out), (p14_ hF.out), (p15_ hF.out), (p16_ hF.out), (p17_ hF.out), (p18_ hF.out), (fun _ => rfl), (p20_ hF.out), (p21_ hF.out), (p22_ hF.out), (p23_ hF.out), (p24_ hF.out), (p25_ hF.out), (fun _ => rfl), (p27_ hF.out), (p28_ hF.out), (fun _ => rfl), (fun _ => rfl), (p31_ hF.out), (p32_ hF.out), (p33_ hF.out), (p34_ hF.out), (q35_ hF.out)⟩
    refine StepsF.cons (o := _) rfl (ws := [16, 26]) (by kernel_rfl) (by decide) (fun d s b w hF hd hw K_ hK => ?_) ?_
    · have hB : Below z2.heap.size z2 w := (p0_ hF.out)
      have e16 : s 48 = .bool true := (p19_ hF.out) (hw 16 (by decide))
      have e26 : s 58 = .bool true := (p30_ hF.out) (hw 26 (by decide))
      dsimp only
      go_simp
      exact hK.out (ups (ups (ups s 48 (.bool true)) 58 (.bool true)) 59 (.bool true)) b _ ⟨hB, (p1_ hF.out), (p2_ hF.out), (p3_ hF.out), (p4_ hF.out), (p5_ hF.out), (p6_ hF.out), (p7_ hF.out), (p8_ hF.out), (p9_ hF.out), (p10_ hF.out), (p11_ hF.out), (p12_ hF.out), (p13_ hF.out), (p14_ hF.out), (p15_ hF.out), (p16_ hF.out), (p17_ hF.out), (p18_ hF.out), (fun _ => rfl), (p20_ hF.out), (p21_ hF.out), (p22_ hF.out), (p23_ hF.out), (p24_ hF.out), (p25_ hF.out), (p26_ hF.out), (p27_ hF.out), (p28_ hF.out), (p29_ hF.out), (fun _ => rfl), (fun _ => rfl), (p32_ hF.out), (p33_ hF.out), (p34_ hF.out), (q35_ hF.out)⟩
    refine StepsF.cons (o := _) rfl (ws := [27, 22]) (by kernel_rfl) (by decide) (fun d s b w hF hd hw K_ hK => ?_) ?_
    · have hB : Below z2.heap.size z2 w := (p0_ hF.out)
      have e22 : s 54 = .agg (nums .u8 (fun i => kf (16 + i)) 16).toArray := (p26_ hF.out) (hw 22 (by decide))
      have e27 : s 59 = .bool true := (p31_ hF.out) (hw 27 (by decide))
      dsimp only
      go_simp
      exact hK.out (ups (ups (ups s 54 (.agg (nums .u8 (fun i => kf (16 + i)) 16).toArray)) 59 (.bool true)) 60 (.bool true)) b _ ⟨hB, (p1_ hF.out), (p2_ hF.out), (p3_ hF.out), (p4_ hF.out), (p5_ hF.out), (p6_ hF.out), (p7_ hF.out), (p8_ hF.out), (p9_ hF.out), (p10_ hF.out), (p11_ hF.out), (p12_ hF.out), (p13_ hF.out), (p14_ hF.out), (p15_ hF.out), (p16_ hF.out), (p17_ hF.out), (p18_ hF.out), (p19_ hF.out), (p20_ hF.out), (p21_ hF.out), (p22_ hF.out), (p23_ hF.out), (p24_ hF.out), (p25_ hF.out), (fun _ => rfl), (p27_ hF.out), (p28_ hF.out), (p29_ hF.out), (p30_ hF.out), (fun _ => rfl), (fun _ => rfl), (p33_ hF.out), (p34_ hF.out), (q35_ hF.out)⟩
    refine StepsF.cons (o := _) rfl (ws := [28, 28]) (by kernel_rfl) (by decide) (fun d s b w hF hd hw K_ hK => ?_) ?_
    · have hB : Below z2.heap.size z2 w := (p0_ hF.out)
      have e28 : s 60 = .bool true := (p32_ hF.out) (hw 28 (by decide))
      dsimp only
      go_simp
      go_at_call 15
      refine (works_any _).mono ?_
      rintro e w1 ⟨rfl, hb⟩
      exact hK.out (ups (ups s 60 (.bool true)) 61 (.bool true)) b _ ⟨(Below.go hB hb), (p1_ hF.out), (p2_ hF.out), (p3_ hF.out), (fun h0 h1 => ((p4_ hF.out) h0 h1).later hb), (p5_ hF.out), (p6_ hF.out), (p7_ hF.out), (p8_ hF.out), (p9_ hF.out), (p10_ hF.out), (p11_ hF.out), (fun h0 h1 => ((p12_ hF.out) h0 h1).later hb), (p13_ hF.out), (p14_ hF.out), (p15_ hF.out), (p16_ hF.out), (p17_ hF.out), (p18_ hF.out), (p19_ hF.out), (p20_ hF.out), (p21_ hF.out), (p22_ hF.out), (fun h0 h1 => ((p23_ hF.out) h0 h1).later hb), (p24_ hF.out), (p25_ hF.out), (p26_ hF.out), (p27_ hF.out), (p28_ hF.out), (p29_ hF.out), (p30_ hF.out), (p31_ hF.out), (fun _ => rfl), (fun _ => rfl), (p34_ hF.out), (q35_ hF.out)⟩
    refine StepsF.cons (o := _) rfl (ws := [28, 29]) (by kernel_rfl) (by decide) (fun d s b w hF hd hw K_ hK => ?_) ?_
    · have hB : Below z2.heap.size z2 w := (p0_ hF.out)
      have e28 : s 60 = .bool true := (p32_ hF.out) (hw 28 (by decide))
      have e29 : s 61 = .bool true := (p33_ hF.out) (hw 29 (by decide))
      dsimp only
      go_simp
      exact hK.out (ups (ups (ups s 60 (.bool true)) 61 (.bool true)) 62 (.bool true)) b _ ⟨hB, (p1_ hF.out), (p2_ hF.out), (p3_ hF.out), (p4_ hF.out), (p5_ hF.out), (p6_ hF.out), (p7_ hF.out), (p8_ hF.out), (p9_ hF.out), (p10_ hF.out), (p11_ hF.out), (p12_ hF.out), (p13_ hF.out), (p14_ hF.out), (p15_ hF.out), (p16_ hF.out), (p17_ hF.out), (p18_ hF.out), (p19_ hF.out), (p20_ hF.out), (p21_ hF.out), (p22_ hF.out), (p23_ hF.out), (p24_ hF.out), (p25_ hF.out), (p26_ hF.out), (p27_ hF.out), (p28_ hF.out), (p29_ hF.out), (p30_ hF.out), (p31_ hF.out), (fun _ => rfl), (fun _ => rfl), (fun _ => rfl), (q35_ hF.out)⟩
    refine StepsF.cons (o := _) rfl (ws := [30, 29, 0, 1, 2, 3, 4, 5, 6, 7, 8, 9, 10, 11, 12, 13, 14, 15, 16, 17, 18, 19, 20, 21, 22, 23, 24, 25, 26, 27, 28, 29, 30]) (by kernel_rfl) (by decide) (fun d s b w hF hd hw K_ hK => ?_) ?_
    · have hB : Below z2.heap.size z2 w := (p0_ hF.out)
      have e0 : s 32 = .agg (nums .u8 (halfs (clampF kf) (fun _ => 0)) 32).toArray := (p1_ hF.out) (hw 0 (by decide))
      have e1 : s 33 = .slice p N c := (p2_ hF.out) (hw 1 (by decide))
      have e2 : s 34 = .slice (some ⟨(b 2), 0, none⟩) 1 1 := ((p3_ hF.out) (hw 2 (by decide))).1
      have le2 : z2.heap.size ≤ b 2 := ((p3_ hF.out) (hw 2 (by decide))).2
      have e3 : s 35 = .agg (nums .u8 (byt t0) 16).toArray := (p5_ hF.out) (hw 3 (by decide))
      have e4 : s 36 = .agg (nums .u8 (byt t0) 16).toArray := (p6_ hF.out) (hw 4 (by decide))
      have e5 : s 37 = .bool true := (p7_ hF.out) (hw 5 (by decide))
      have e6 : s 38 = .bool true := (p8_ hF.out) (hw 6 (by decide))
      have e7 : s 39 = .agg (nums .u8 (halfs kf g) 32).toArray := (p9_ hF.out) (hw 7 (by decide))
      have e8 : s 40 = .slice p N c := (p10_ hF.out) (hw 8 (by decide))
      have e9 : s 41 = .slice (some ⟨(b 9), 0, none⟩) 1 1 := ((p11_ hF.out) (hw 9 (by decide))).1
      have le9 : z2.heap.size ≤ b 9 := ((p11_ hF.out) (hw 9 (by decide))).2
      have e10 : s 42 = .agg (nums .u8 (byt t3) 16).toArray := (p13_ hF.out) (hw 10 (by decide))
      have e11 : s 43 = .agg (nums .u8 (byt t0) 16).toArray := (p14_ hF.out) (hw 11 (by decide))
      have e12 : s 44 = .agg (nums .u8 g 16).toArray := (p15_ hF.out) (hw 12 (by decide))
      have e13 : s 45 = .agg (nums .u8 g 16).toArray := (p16_ hF.out) (hw 13 (by decide))
      have e14 : s 46 = .bool true := (p17_ hF.out) (hw 14 (by decide))
      have e15 : s 47 = .bool true := (p18_ hF.out) (hw 15 (by decide))
      have e16 : s 48 = .bool true := (p19_ hF.out) (hw 16 (by decide))
      have e17 : s 49 = .agg (nums .u8 kf 32).toArray := (p20_ hF.out) (hw 17 (by decide))
      have e18 : s 50 = .slice p N c := (p21_ hF.out) (hw 18 (by decide))
      have e19 : s 51 = .slice (some ⟨(b 19), 0, none⟩) 1 1 := ((p22_ hF.out) (hw 19 (by decide))).1
      have le19 : z2.heap.size ≤ b 19 := ((p22_ hF.out) (hw 19 (by decide))).2
      have e20 : s 52 = .agg (nums .u8 (byt t4) 16).toArray := (p24_ hF.out) (hw 20 (by decide))
      have e21 : s 53 = .agg (nums .u8 (byt t0) 16).toArray := (p25_ hF.out) (hw 21 (by decide))
      have e22 : s 54 = .agg (nums .u8 (fun i => kf (16 + i)) 16).toArray := (p26_ hF.out) (hw 22 (by decide))
      have e23 : s 55 = .slice (some ⟨Y, 16, none⟩) 16 16 := (p27_ hF.out) (hw 23 (by decide))
      have e24 : s 56 = .pointer (some ⟨Y, 16, none⟩) := (p28_ hF.out) (hw 24 (by decide))
      have e25 : s 57 = .agg (nums .u8 (fun i => kf (16 + i)) 16).toArray := (p29_ hF.out) (hw 25 (by decide))
      have e26 : s 58 = .bool true := (p30_ hF.out) (hw 26 (by decide))
      have e27 : s 59 = .bool true := (p31_ hF.out) (hw 27 (by decide))
      have e28 : s 60 = .bool true := (p32_ hF.out) (hw 28 (by decide))
      have e29 : s 61 = .bool true := (p33_ hF.out) (hw 29 (by decide))
      have e30 : s 62 = .bool true := (p34_ hF.out) (hw 30 (by decide))
      dsimp only
      go_simp
      exact hK.out (ups (ups (ups (ups (ups (ups (ups (ups (ups (ups (ups (ups (ups (ups (ups (ups (ups (ups (ups (ups (ups (ups (ups (ups (ups (ups (ups (ups (ups (ups (ups (ups s 32 (.agg (nums .u8 (halfs (clampF kf) (fun _ => 0)) 32).toArray)) 33 (.slice p N c)) 34 (.slice (some ⟨(b 2), 0, none⟩) 1 1)) 35 (.agg (nums .u8 (byt t0) 16).toArray)) 36 (.agg (nums .u8 (byt t0) 16).toArray)) 37 (.bool true)) 38 (.bool true)) 39 (.agg (nums .u8 (halfs kf g) 32).toArray)) 40 (.slice p N c)) 41 (.slice (some ⟨(b 9), 0, none⟩) 1 1)) 42 (.agg (nums .u8 (byt t3) 16).toArray)) 43 (.agg (nums .u8 (byt t0) 16).toArray)) 44 (.agg (nums .u8 g 16).toArray)) 45 (.agg (nums .u8 g 16).toArray)) 46 (.bool true)) 47 (.bool true)) 48 (.bool true)) 49 (.agg (nums .u8 kf 32).toArray)) 50 (.slice p N c)) 51 (.slice (some ⟨(b 19), 0, none⟩) 1 1)) 52 (.agg (nums .u8 (byt t4) 16).toArray)) 53 (.agg (nums .u8 (byt t0) 16).toArray)) 54 (.agg (nums .u8 (fun i => kf (16 + i)) 16).toArray)) 55 (.slice (some ⟨Y, 16, none⟩) 16 16)) 56 (.pointer (some ⟨Y, 16, none⟩))) 57 (.agg (nums .u8 (fun i => kf (16 + i)) 16).toArray)) 58 (.bool true)) 59 (.bool true)) 60 (.bool true)) 61 (.bool true)) 62 (.bool true)) 6 (.bool true)) b _ ⟨hB, (fun _ => rfl), (fun _ => rfl), (fun _ => ⟨rfl, le2⟩), (p4_ hF.out), (fun _ => rfl), (fun _ => rfl), (fun _ => rfl), (fun _ => rfl), (fun _ => rfl), (fun _ => rfl), (fun _ => ⟨rfl, le9⟩), (p12_ hF.out), (fun _ => rfl), (fun _ => rfl), (fun _ => rfl), (fun _ => rfl), (fun _ => rfl), (fun _ => rfl), (fun _ => rfl), (fun _ => rfl), (fun _ => rfl), (fun _ => ⟨rfl, le19⟩), (p23_ hF.out), (fun _ => rfl), (fun _ => rfl), (fun _ => rfl), (fun _ => rfl), (fun _ => rfl), (fun _ => rfl), (fun _ => rfl), (fun _ => rfl), (fun _ => rfl), (fun _ => rfl), (fun _ => rfl), (fun _ => rfl)⟩
    exact StepsF.nil
  intro d s b x1 hF hall
  replace hF := Lib.hid hF
  have hB : Below z2.heap.size z2 x1 := (p0_ hF.out)
  try dsimp only
  have e0 : s 32 = .agg (nums .u8 (halfs (clampF kf) (fun _ => 0)) 32).toArray := (p1_ hF.out) (hall 0 (by decide))
  have e1 : s 33 = .slice p N c := (p2_ hF.out) (hall 1 (by decide))
  have e2 : s 34 = .slice (some ⟨(b 2), 0, none⟩) 1 1 := ((p3_ hF.out) (hall 2 (by decide))).1
  have le2 : z2.heap.size ≤ b 2 := ((p3_ hF.out) (hall 2 (by decide))).2
  have e3 : s 35 = .agg (nums .u8 (byt t0) 16).toArray := (p5_ hF.out) (hall 3 (by decide))
  have e4 : s 36 = .agg (nums .u8 (byt t0) 16).toArray := (p6_ hF.out) (hall 4 (by decide))
  have e5 : s 37 = .bool true := (p7_ hF.out) (hall 5 (by decide))
  have e6 : s 38 = .bool true := (p8_ hF.out) (hall 6 (by decide))
  have e7 : s 39 = .agg (nums .u8 (halfs kf g) 32).toArray := (p9_ hF.out) (hall 7 (by decide))
  have e8 : s 40 = .slice p N c := (p10_ hF.out) (hall 8 (by decide))
  have e9 : s 41 = .slice (some ⟨(b 9), 0, none⟩) 1 1 := ((p11_ hF.out) (hall 9 (by decide))).1
  have le9 : z2.heap.size ≤ b 9 := ((p11_ hF.out) (hall 9 (by decide))).2
  have e10 : s 42 = .agg (nums .u8 (byt t3) 16).toArray := (p13_ hF.out) (hall 10 (by decide))
  have e11 : s 43 = .agg (nums .u8 (byt t0) 16).toArray := (p14_ hF.out) (hall 11 (by decide))
  have e12 : s 44 = .agg (nums .u8 g 16).toArray := (p15_ hF.out) (hall 12 (by decide))
  have e13 : s 45 = .agg (nums .u8 g 16).toArray := (p16_ hF.out) (hall 13 (by decide))
  have e14 : s 46 = .bool true := (p17_ hF.out) (hall 14 (by decide))
  have e15 : s 47 = .bool true := (p18_ hF.out) (hall 15 (by decide))
  have e16 : s 48 = .bool true := (p19_ hF.out) (hall 16 (by decide))
  have e17 : s 49 = .agg (nums .u8 kf 32).toArray := (p20_ hF.out) (hall 17 (by decide))
  have e18 : s 50 = .slice p N c := (p21_ hF.out) (hall 18 (by decide))
  have e19 : s 51 = .slice (some ⟨(b 19), 0, none⟩) 1 1 := ((p22_ hF.out) (hall 19 (by decide))).1
  have le19 : z2.heap.size ≤ b 19 := ((p22_ hF.out) (hall 19 (by decide))).2
  have e20 : s 52 = .agg (nums .u8 (byt t4) 16).toArray := (p24_ hF.out) (hall 20 (by decide))
  have e21 : s 53 = .agg (nums .u8 (byt t0) 16).toArray := (p25_ hF.out) (hall 21 (by decide))
  have e22 : s 54 = .agg (nums .u8 (fun i => kf (16 + i)) 16).toArray := (p26_ hF.out) (hall 22 (by decide))
  have e23 : s 55 = .slice (some ⟨Y, 16, none⟩) 16 16 := (p27_ hF.out) (hall 23 (by decide))
  have e24 : s 56 = .pointer (some ⟨Y, 16, none⟩) := (p28_ hF.out) (hall 24 (by decide))
  have e25 : s 57 = .agg (nums .u8 (fun i => kf (16 + i)) 16).toArray := (p29_ hF.out) (hall 25 (by decide))
  have e26 : s 58 = .bool true := (p30_ hF.out) (hall 26 (by decide))
  have e27 : s 59 = .bool true := (p31_ hF.out) (hall 27 (by decide))
  have e28 : s 60 = .bool true := (p32_ hF.out) (hall 28 (by decide))
  have e29 : s 61 = .bool true := (p33_ hF.out) (hall 29 (by decide))
  have e30 : s 62 = .bool true := (p34_ hF.out) (hall 30 (by decide))
  have e31 : s 6 = .bool true := (q35_ hF.out) (hall 31 (by decide))
  rw [e0, e1, e2, e3, e4, e5, e6, e7, e8, e9, e10, e11, e12, e13, e14, e15, e16, e17, e18, e19, e20, e21, e22, e23, e24, e25, e26, e27, e28, e29, e30, e31]
  clear hall hF e0 e1 e2 e3 e4 e5 e6 e7 e8 e9 e10 e11 e12 e13 e14 e15 e16 e17 e18 e19 e20 e21 e22 e23 e24 e25 e26 e27 e28 e29 e30 e31
  obtain ⟨L34_, hz⟩ : ∃ x, x = b 2 := ⟨_, rfl⟩
  rw [← hz] at le2 ⊢
  clear hz
  obtain ⟨L41_, hz⟩ : ∃ x, x = b 9 := ⟨_, rfl⟩
  rw [← hz] at le9 ⊢
  clear hz
  obtain ⟨L51_, hz⟩ : ∃ x, x = b 19 := ⟨_, rfl⟩
  rw [← hz] at le19 ⊢
  clear hz
  clear d s b
  go_wp2_with (fail)
  go_ret
  exact ⟨rfl, Below.go hB0 hB⟩
end Go.Proofs.Ytljngnemiaklhaa
