/- mesh: Check. -/
import Derived.Test.YtnopcgkhoennfaaSD
import Derived.Lib.Hide
import Derived.LoopN
import Derived.LoopTactic
import Derived.Deep.Onto
import Derived.Deep.RegionHeld3
import Derived.Deep.QuietTactic
import Derived.BigQuiet
import Derived.Laws.EntriesVeiled
namespace Go.Proofs.Ytnopcgkhoennfaa
set_option linter.unusedVariables false
set_option maxRecDepth 2000
set_option linter.unusedSimpArgs false
open Go.RowKit
theorem in_chk (M : Msh) : 0 ≤ chkM M ∧ chkM M ≤ 8 := by
  unfold chkM chkF
  repeat' split
  all_goals omega
set_option maxHeartbeats 8000000 in
theorem Check_any (M : Msh) (w : World) (hM : MeshAt M w) : Calls Try.prog 11 #[(.agg #[.slice M.qv M.nv M.cv, .slice M.qu M.nu M.cu, .slice M.qt M.nt M.ct])] w fun e w' => e = .returned (.int .i64 (chkM M)) ∧ Below w.heap.size w w' := by
  have HM0 := Lib.hid hM
  have V1 := Lib.hid (@chk_1 M.nv M.nu M.nt M.V M.U M.R); have V2 := Lib.hid (@chk_2 M.nv M.nu M.nt M.V M.U M.R); have V3 := Lib.hid (@chk_3 M.nv M.nu M.nt M.V M.U M.R); have V4 := Lib.hid (@chk_4 M.nv M.nu M.nt M.V M.U M.R); have V5 := Lib.hid (@chk_5 M.nv M.nu M.nt M.V M.U M.R); have V6 := Lib.hid (@chk_6 M.nv M.nu M.nt M.V M.U M.R)
  change Calls _ _ _ _ fun e w' => e = .returned (.int .i64 (chkF M.nv M.nu M.nt M.V M.U M.R)) ∧ Below w.heap.size w w'
  generalize chkF M.nv M.nu M.nt M.V M.U M.R = z at *
  clear hM
  go_enter Try.func11, Try.ntmps11
  go_wp2_with (fail)
  go_at_call 23
  refine (faults_any M _).mono ?_
  rintro e w1 ⟨B, L, rfl, hB, hL, hb⟩
  have HB1 := Lib.hid (Below.go (Below.al (o := .cells #[.slice M.qv M.nv M.cv, .slice M.qu M.nu M.cu, .slice M.qt M.nt M.ct] 26) (Below.refl _ _)) hb)
  have HM1 := Lib.hid (HM0.out.later HB1.out)
  have HX1 := Lib.hid hB; have HL1 := Lib.hid hL
  clear hB hL hb HM0
  go_wp2_with (fail)
  refine wp_loop_rounds 6 ?_
  rw [rounds_succ]
  have L0 := HL1.out.at 0 _ rfl; have L1 := HL1.out.at 1 _ rfl; have Ll := HL1.out.lt
  go_upto_region 4 with fail
  clear L0 L1 Ll
  obtain ⟨w2, hW⟩ : ∃ w2, w2 = (w1.alloc (.cells #[.func (.func 36) #[] #[.pointer (some ⟨B, 0, none⟩)], .int .i64 3] 67)) := ⟨_, rfl⟩
  have hBx : Below w1.heap.size w1 w2 := hW ▸ (Below.al (Below.refl _ _))
  have HF : Hid (Own w1.heap.size ([.func (.func 36) #[] #[.pointer (some ⟨B, 0, none⟩)], .int .i64 3]) w2) := Lib.hid (hW ▸ (show Own w1.heap.size ([.func (.func 36) #[] #[.pointer (some ⟨B, 0, none⟩)], .int .i64 3]) (w1.alloc (.cells #[.func (.func 36) #[] #[.pointer (some ⟨B, 0, none⟩)], .int .i64 3] 67)) from Own.newAt (by simp)))
  rw [← hW]
  clear hW
  obtain ⟨F, eF⟩ : ∃ X, X = w1.heap.size := ⟨_, rfl⟩
  rw [← eF] at HF ⊢
  have Fw : w1.heap.size ≤ F := by omega
  clear eF
  have HB2 := Lib.hid (Below.go HB1.out hBx); have HM2 := Lib.hid (HM1.out.later hBx); have HX2 := Lib.hid (HX1.out.later hBx); have HL2 := Lib.hid (HL1.out.later hBx)
  clear HB1 HM1 HX1 HL1 hBx Fw
  have F0 := HF.out.at 0 _ rfl; have Fl := HF.out.lt
  go_wp2_with (fail)
  go_at_call 36
  refine (fault1_any M B _ HX2.out).mono ?_
  rintro e w3 ⟨rfl, hw⟩
  subst hw
  clear F0 Fl
  have HB3 := HB2; have HM3 := HM2; have HX3 := HX2; have HL3 := HL2
  clear HB2 HM2 HX2 HL2
  have F1 := HF.out.at 1 _ rfl; have Fl := HF.out.lt
  obtain ⟨b, eb⟩ : ∃ b, decide (64 < M.nv ∨ 64 < M.nt) = b := ⟨_, rfl⟩
  rw [eb]
  cases b with
  | true =>
    obtain rfl : z = 3 := V1.out  (of_decide_eq_true eb)
    clear V1 V2 V3 V4 V5 V6 eb
    go_wp2_with (fail)
    go_ret
    exact ⟨rfl, HB3.out⟩
  | false =>
  have c1 := of_decide_eq_false eb
  clear eb
  have C1 := Lib.hid c1
  clear c1 F1 Fl HF
  go_wp2_with (fail)
  rw [rounds_succ]
  have L0 := HL3.out.at 2 _ rfl; have L1 := HL3.out.at 3 _ rfl; have Ll := HL3.out.lt
  go_upto_region 4 with fail
  clear L0 L1 Ll
  obtain ⟨w4, hW⟩ : ∃ w4, w4 = (w3.alloc (.cells #[.func (.func 37) #[] #[.pointer (some ⟨B, 0, none⟩)], .int .i64 5] 67)) := ⟨_, rfl⟩
  have hBx : Below w3.heap.size w3 w4 := hW ▸ (Below.al (Below.refl _ _))
  have HF : Hid (Own w3.heap.size ([.func (.func 37) #[] #[.pointer (some ⟨B, 0, none⟩)], .int .i64 5]) w4) := Lib.hid (hW ▸ (show Own w3.heap.size ([.func (.func 37) #[] #[.pointer (some ⟨B, 0, none⟩)], .int .i64 5]) (w3.alloc (.cells #[.func (.func 37) #[] #[.pointer (some ⟨B, 0, none⟩)], .int .i64 5] 67)) from Own.newAt (by simp)))
  rw [← hW]
  clear hW
  obtain ⟨F, eF⟩ : ∃ X, X = w3.heap.size := ⟨_, rfl⟩
  rw [← eF] at HF ⊢
  have Fw : w3.heap.size ≤ F := by omega
  clear eF
  have HB4 := Lib.hid (Below.go HB3.out hBx); have HM4 := Lib.hid (HM3.out.later hBx); have HX4 := Lib.hid (HX3.out.later hBx); have HL4 := Lib.hid (HL3.out.later hBx)
  clear HB3 HM3 HX3 HL3 hBx Fw
  have F0 := HF.out.at 0 _ rfl; have Fl := HF.out.lt
  go_wp2_with (fail)
  go_at_call 37
  refine (fault2_any M B _ HX4.out).mono ?_
  rintro e w5 ⟨rfl, hw⟩
  subst hw
  clear F0 Fl
  have HB5 := HB4; have HM5 := HM4; have HX5 := HX4; have HL5 := HL4
  clear HB4 HM4 HX4 HL4
  have F1 := HF.out.at 1 _ rfl; have Fl := HF.out.lt
  obtain ⟨b, eb⟩ : ∃ b, decide (M.nv = 0 ∨ M.nt = 0 ∨ M.nu ≠ M.nv) = b := ⟨_, rfl⟩
  rw [eb]
  cases b with
  | true =>
    obtain rfl : z = 5 := V2.out C1.out (of_decide_eq_true eb)
    clear V1 V2 V3 V4 V5 V6 eb
    go_wp2_with (fail)
    go_ret
    exact ⟨rfl, HB5.out⟩
  | false =>
  have c2 := of_decide_eq_false eb
  clear eb
  have C2 := Lib.hid c2
  clear c2 F1 Fl HF
  go_wp2_with (fail)
  rw [rounds_succ]
  have L0 := HL5.out.at 4 _ rfl; have L1 := HL5.out.at 5 _ rfl; have Ll := HL5.out.lt
  go_upto_region 4 with fail
  clear L0 L1 Ll
  obtain ⟨w6, hW⟩ : ∃ w6, w6 = (w5.alloc (.cells #[.func (.func 38) #[] #[.pointer (some ⟨B, 0, none⟩)], .int .i64 8] 67)) := ⟨_, rfl⟩
  have hBx : Below w5.heap.size w5 w6 := hW ▸ (Below.al (Below.refl _ _))
  have HF : Hid (Own w5.heap.size ([.func (.func 38) #[] #[.pointer (some ⟨B, 0, none⟩)], .int .i64 8]) w6) := Lib.hid (hW ▸ (show Own w5.heap.size ([.func (.func 38) #[] #[.pointer (some ⟨B, 0, none⟩)], .int .i64 8]) (w5.alloc (.cells #[.func (.func 38) #[] #[.pointer (some ⟨B, 0, none⟩)], .int .i64 8] 67)) from Own.newAt (by simp)))
  rw [← hW]
  clear hW
  obtain ⟨F, eF⟩ : ∃ X, X = w5.heap.size := ⟨_, rfl⟩
  rw [← eF] at HF ⊢
  have Fw : w5.heap.size ≤ F := by omega
  clear eF
  have HB6 := Lib.hid (Below.go HB5.out hBx); have HM6 := Lib.hid (HM5.out.later hBx); have HX6 := Lib.hid (HX5.out.later hBx); have HL6 := Lib.hid (HL5.out.later hBx)
  clear HB5 HM5 HX5 HL5 hBx Fw
  have F0 := HF.out.at 0 _ rfl; have Fl := HF.out.lt
  go_wp2_with (fail)
  go_at_call 38
  refine (fault3_any M B _ HX6.out HM6.out).mono ?_
  rintro e w7 ⟨rfl, hb⟩
  have HB7 := Lib.hid (Below.go HB6.out hb); have HM7 := Lib.hid (HM6.out.later hb); have HX7 := Lib.hid (HX6.out.later hb); have HL7 := Lib.hid (HL6.out.later hb); have HFn := Lib.hid (HF.out.later hb)
  clear HB6 HM6 HX6 HL6 hb F0 HF Fl
  have HF := HFn
  clear HFn
  have F1 := HF.out.at 1 _ rfl; have Fl := HF.out.lt
  obtain ⟨b, eb⟩ : ∃ b, allB (okPs M.V) M.nv = b := ⟨_, rfl⟩
  rw [eb]
  cases b with
  | false =>
    obtain rfl : z = 8 := V3.out C1.out C2.out eb
    clear V1 V2 V3 V4 V5 V6 eb
    go_wp2_with (fail)
    go_ret
    exact ⟨rfl, HB7.out⟩
  | true =>
  have c3 := eb
  clear eb
  have C3 := Lib.hid c3
  clear c3 F1 Fl HF
  go_wp2_with (fail)
  rw [rounds_succ]
  have L0 := HL7.out.at 6 _ rfl; have L1 := HL7.out.at 7 _ rfl; have Ll := HL7.out.lt
  go_upto_region 4 with fail
  clear L0 L1 Ll
  obtain ⟨w8, hW⟩ : ∃ w8, w8 = (w7.alloc (.cells #[.func (.func 41) #[] #[.pointer (some ⟨B, 0, none⟩)], .int .i64 5] 67)) := ⟨_, rfl⟩
  have hBx : Below w7.heap.size w7 w8 := hW ▸ (Below.al (Below.refl _ _))
  have HF : Hid (Own w7.heap.size ([.func (.func 41) #[] #[.pointer (some ⟨B, 0, none⟩)], .int .i64 5]) w8) := Lib.hid (hW ▸ (show Own w7.heap.size ([.func (.func 41) #[] #[.pointer (some ⟨B, 0, none⟩)], .int .i64 5]) (w7.alloc (.cells #[.func (.func 41) #[] #[.pointer (some ⟨B, 0, none⟩)], .int .i64 5] 67)) from Own.newAt (by simp)))
  rw [← hW]
  clear hW
  obtain ⟨F, eF⟩ : ∃ X, X = w7.heap.size := ⟨_, rfl⟩
  rw [← eF] at HF ⊢
  have Fw : w7.heap.size ≤ F := by omega
  clear eF
  have HB8 := Lib.hid (Below.go HB7.out hBx); have HM8 := Lib.hid (HM7.out.later hBx); have HX8 := Lib.hid (HX7.out.later hBx); have HL8 := Lib.hid (HL7.out.later hBx)
  clear HB7 HM7 HX7 HL7 hBx Fw
  have F0 := HF.out.at 0 _ rfl; have Fl := HF.out.lt
  go_wp2_with (fail)
  go_at_call 41
  refine (fault4_any M B _ HX8.out HM8.out).mono ?_
  rintro e w9 ⟨rfl, hb⟩
  have HB9 := Lib.hid (Below.go HB8.out hb); have HM9 := Lib.hid (HM8.out.later hb); have HX9 := Lib.hid (HX8.out.later hb); have HL9 := Lib.hid (HL8.out.later hb); have HFn := Lib.hid (HF.out.later hb)
  clear HB8 HM8 HX8 HL8 hb F0 HF Fl
  have HF := HFn
  clear HFn
  have F1 := HF.out.at 1 _ rfl; have Fl := HF.out.lt
  obtain ⟨b, eb⟩ : ∃ b, allB (okUs M.U) M.nu = b := ⟨_, rfl⟩
  rw [eb]
  cases b with
  | false =>
    obtain rfl : z = 5 := V4.out C1.out C2.out C3.out eb
    clear V1 V2 V3 V4 V5 V6 eb
    go_wp2_with (fail)
    go_ret
    exact ⟨rfl, HB9.out⟩
  | true =>
  have c4 := eb
  clear eb
  have C4 := Lib.hid c4
  clear c4 F1 Fl HF
  go_wp2_with (fail)
  rw [rounds_succ]
  have L0 := HL9.out.at 8 _ rfl; have L1 := HL9.out.at 9 _ rfl; have Ll := HL9.out.lt
  go_upto_region 4 with fail
  clear L0 L1 Ll
  obtain ⟨w10, hW⟩ : ∃ w10, w10 = (w9.alloc (.cells #[.func (.func 44) #[] #[.pointer (some ⟨B, 0, none⟩)], .int .i64 5] 67)) := ⟨_, rfl⟩
  have hBx : Below w9.heap.size w9 w10 := hW ▸ (Below.al (Below.refl _ _))
  have HF : Hid (Own w9.heap.size ([.func (.func 44) #[] #[.pointer (some ⟨B, 0, none⟩)], .int .i64 5]) w10) := Lib.hid (hW ▸ (show Own w9.heap.size ([.func (.func 44) #[] #[.pointer (some ⟨B, 0, none⟩)], .int .i64 5]) (w9.alloc (.cells #[.func (.func 44) #[] #[.pointer (some ⟨B, 0, none⟩)], .int .i64 5] 67)) from Own.newAt (by simp)))
  rw [← hW]
  clear hW
  obtain ⟨F, eF⟩ : ∃ X, X = w9.heap.size := ⟨_, rfl⟩
  rw [← eF] at HF ⊢
  have Fw : w9.heap.size ≤ F := by omega
  clear eF
  have HB10 := Lib.hid (Below.go HB9.out hBx); have HM10 := Lib.hid (HM9.out.later hBx); have HX10 := Lib.hid (HX9.out.later hBx); have HL10 := Lib.hid (HL9.out.later hBx)
  clear HB9 HM9 HX9 HL9 hBx Fw
  have F0 := HF.out.at 0 _ rfl; have Fl := HF.out.lt
  go_wp2_with (fail)
  go_at_call 44
  refine (fault5_any M B _ HX10.out HM10.out).mono ?_
  rintro e w11 ⟨rfl, hb⟩
  have HB11 := Lib.hid (Below.go HB10.out hb); have HM11 := Lib.hid (HM10.out.later hb); have HX11 := Lib.hid (HX10.out.later hb); have HL11 := Lib.hid (HL10.out.later hb); have HFn := Lib.hid (HF.out.later hb)
  clear HB10 HM10 HX10 HL10 hb F0 HF Fl
  have HF := HFn
  clear HFn
  have F1 := HF.out.at 1 _ rfl; have Fl := HF.out.lt
  obtain ⟨b, eb⟩ : ∃ b, allB (okTs M.nv M.R) M.nt = b := ⟨_, rfl⟩
  rw [eb]
  cases b with
  | false =>
    obtain rfl : z = 5 := V5.out C1.out C2.out C3.out C4.out eb
    clear V1 V2 V3 V4 V5 V6 eb
    go_wp2_with (fail)
    go_ret
    exact ⟨rfl, HB11.out⟩
  | true =>
  have c5 := eb
  clear eb
  obtain rfl : z = 0 := V6.out C1.out C2.out C3.out C4.out c5
  clear V1 V2 V3 V4 V5 V6 c5 F1 Fl HF
  go_wp2_with (fail)
  rw [rounds_succ]
  go_wp2_with (fail)
  go_ret
  exact ⟨rfl, HB11.out⟩
end Go.Proofs.Ytnopcgkhoennfaa
