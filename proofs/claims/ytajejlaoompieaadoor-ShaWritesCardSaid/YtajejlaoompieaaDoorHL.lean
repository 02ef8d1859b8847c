/- Sum of a Hash; sha.Sum. -/
import Derived.Test.YtajejlaoompieaaDoorHK
import Derived.Test.YtajejlaoompieaaDoorHG
import Derived.Lib.Hide
import Derived.LoopN
import Derived.LoopTactic
import Derived.Deep.Onto
import Derived.Deep.QuietTactic
import Derived.Deep.WholeRow
namespace Go.Proofs.YtajejlaoompieaaDoor
set_option linter.unusedVariables false
set_option maxRecDepth 2000
set_option linter.unusedSimpArgs false
open Go.RowKit
theorem stHash (w : World) (g : Nat → Int) (n : Nat) (c : Array Value) (hc : c.size = 74) : (storeCells ⟨w.heap.size, 0, none⟩ (stateH g n)).run Tryd.prog (w.alloc (.cells c 50)) = .ok () (w.alloc (.cells (stateH g n).toArray 50)) :=
  run_storeCells_new (P := Tryd.prog) w 50 c (stateH g n).toArray (by rw [stateH, List.size_toArray, hash_len]; kernel_rfl) (by rw [hc, List.size_toArray, stateH, hash_len]) (all_oneCell_toArray (hash_one _ _ _))
theorem state_congr {g g' : Nat → Int} {n : Nat} (h : ∀ j, j < n → g j = g' j) : stateH g n = stateH g' n := by
  unfold stateH hashC
  have e1 : nums .u32 (chF g (n / 64)) 8 = nums .u32 (chF g' (n / 64)) 8 := nums_congr _ fun j hj => chF_congr _ (fun i hi => h i (by omega)) j hj
  have e2 : nums .u8 (blkH g n) 64 = nums .u8 (blkH g' n) 64 := nums_congr _ fun j hj => by
    unfold blkH
    by_cases h1 : j < n % 64
    · rw [if_pos h1, if_pos h1, h _ (by omega)]
    · rw [if_neg h1, if_neg h1]
  rw [e1, e2]
theorem state_len (g : Nat → Int) (n : Nat) : (stateH g n).length = 74 := hash_len _ _ _
theorem padded_low (g : Nat → Int) (n : Nat) : stateH g n = stateH (padded g n) n := state_congr fun j hj => (if_pos hj).symm
theorem padded_high (g : Nat → Int) (n j : Nat) : padded g n (n + j) = padF n j := by
  unfold padded
  rw [if_neg (by omega), Nat.add_sub_cancel_left]
theorem row_bytN {w : World} {base n c K : Nat} {e : TypeId} {q : Option Addr} {f : Nat → Int} (h : w.ownsRow base e 1 (.slice q n c) n (nums .u8 f n)) (hK : K < base) : BytN w q n f K := by
  by_cases h0 : n = 0
  · exact .inl h0
  · obtain ⟨X, c2, e2, hb, _⟩ := row_blk h (by omega)
    cases e2
    exact .inr ⟨X, 0, rfl, by omega, (row_has h).1⟩
def zeroH : List Value := nums .u32 (fun _ => 0) 8 ++ (nums .u8 (fun _ => 0) 64 ++ [.int .i64 0, .bool false])
theorem zeroH_size : zeroH.toArray.size = 74 := by kernel_rfl
theorem zeroH_len : zeroH.length = 74 := by kernel_rfl
theorem zeroValueH (w : World) : (zeroValue 50).run Tryd.prog w = .ok (.agg zeroH.toArray) w := by kernel_rfl
attribute [local go_sem] nums_length state_len stHash zeroValueH zeroH_size zeroH_len

set_option maxHeartbeats 4000000 in
theorem HSum_any (K n : Nat) (g : Nat → Int) (hn : n ≤ 100000) (hg : ∀ j, j < n → inB (g j)) (w : World) (hG : Has 0 0 (nums .u32 kC 64) w) (hK : Own K (stateH g n) w) :
    Calls Tryd.prog 25 #[.pointer (some ⟨K, 0, none⟩)] w fun e w' => e = .returned (.agg (nums .u8 (sumF g n) 32).toArray) ∧ Below w.heap.size w w' := by
  have HG := Lib.hid hG; have HK := Lib.hid hK; have IG := Lib.hid hg; have HN := Lib.hid hn
  have KW := hK.lt
  clear hG hK hg hn
  go_enter Tryd.func25, Tryd.ntmps25
  go_upto_region 1 with fail
  obtain ⟨W0, hW⟩ : ∃ W0, W0 = (w.alloc (.cells #[.int .u8 0, .int .u8 0, .int .u8 0, .int .u8 0, .int .u8 0, .int .u8 0, .int .u8 0, .int .u8 0, .int .u8 0, .int .u8 0, .int .u8 0, .int .u8 0, .int .u8 0, .int .u8 0, .int .u8 0, .int .u8 0, .int .u8 0, .int .u8 0, .int .u8 0, .int .u8 0, .int .u8 0, .int .u8 0, .int .u8 0, .int .u8 0, .int .u8 0, .int .u8 0, .int .u8 0, .int .u8 0, .int .u8 0, .int .u8 0, .int .u8 0, .int .u8 0] 35)) := ⟨_, rfl⟩
  have hB0 : Below w.heap.size w W0 := hW ▸ (Below.al (Below.refl _ _))
  have HR : Hid (Own w.heap.size (nums .u8 (fun _ => 0) 32) W0) := Lib.hid (hW ▸ (show Own w.heap.size (nums .u8 (fun _ => 0) 32) (w.alloc (.cells #[.int .u8 0, .int .u8 0, .int .u8 0, .int .u8 0, .int .u8 0, .int .u8 0, .int .u8 0, .int .u8 0, .int .u8 0, .int .u8 0, .int .u8 0, .int .u8 0, .int .u8 0, .int .u8 0, .int .u8 0, .int .u8 0, .int .u8 0, .int .u8 0, .int .u8 0, .int .u8 0, .int .u8 0, .int .u8 0, .int .u8 0, .int .u8 0, .int .u8 0, .int .u8 0, .int .u8 0, .int .u8 0, .int .u8 0, .int .u8 0, .int .u8 0, .int .u8 0] 35)) from Own.newAt (by simp)))
  rw [← hW]
  clear hW
  obtain ⟨R, eR⟩ : ∃ X, X = w.heap.size := ⟨_, rfl⟩
  rw [← eR] at HR ⊢
  have Rw : w.heap.size ≤ R := by omega
  clear eR
  have HGk := Lib.hid (HG.out.later hB0)
  have HKk := Lib.hid (HK.out.later hB0)
  clear HG HK
  have HG := HGk
  clear HGk
  have HK := HKk
  clear HKk
  have nKR : K ≠ R := by omega
  have nRK := Ne.symm nKR
  clear KW
  have k73 := HK.out.at 73 _ (hash_made _ _ _)
  have k72 := HK.out.at 72 _ (hash_n _ _ _)
  have Kl := HK.out.lt
  go_upto_region 3 with fail
  refine wp_region_lit ?_
  refine wpList_move rfl _ rfl ?_
  refine wpList_val rfl (.pointer (some ⟨K, 0, none⟩)) rfl ?_
  refine wpList_load_mid rfl 50 _ rfl K 0 rfl (stateH g n) _ HK.out.cell Tryd.underlying50 rfl (by kernel_rfl) ?_
  go_upto_region 4 with fail
  obtain ⟨W1, hW⟩ : ∃ W1, W1 = (W0.alloc (.cells (stateH g n).toArray 50)) := ⟨_, rfl⟩
  have hBx : Below W0.heap.size W0 W1 := hW ▸ (Below.al (Below.refl _ _))
  have HS : Hid (Own W0.heap.size (stateH g n) W1) := Lib.hid (hW ▸ (show Own W0.heap.size (stateH g n) (W0.alloc (.cells (stateH g n).toArray 50)) from Own.newAt (by simp)))
  rw [← hW]
  clear hW
  obtain ⟨S, eS⟩ : ∃ X, X = W0.heap.size := ⟨_, rfl⟩
  rw [← eS] at HS ⊢
  have Sw : W0.heap.size ≤ S := by omega
  clear eS
  have nSR : S ≠ R := by have := HR.out.lt; omega
  have nRS : R ≠ S := Ne.symm nSR
  have nSK : S ≠ K := by have := HK.out.lt; omega
  have nKS : K ≠ S := Ne.symm nSK
  have nS0 : S ≠ 0 := by have := HG.out.lt; omega
  have n0S : 0 ≠ S := Ne.symm nS0
  have Sw2 : w.heap.size ≤ S := by have := hB0.size; omega
  clear Sw
  have Sw := Sw2
  clear Sw2
  have HRk := Lib.hid (HR.out.later hBx)
  have HKk := Lib.hid (HK.out.later hBx)
  have HGk := Lib.hid (HG.out.later hBx)
  clear HR HK HG
  have HR := HRk
  clear HRk
  have HK := HKk
  clear HKk
  have HG := HGk
  clear HGk
  have hB0n := Below.go hB0 hBx
  clear hB0 hBx
  have hB0 := hB0n
  clear hB0n
  have e1 : max (n : Int) 0 = ((n : Nat) : Int) := by omega
  have hB1 := Lib.hid hB0
  have PADC := Lib.hid (fun w => Pad_any (n : Int) n e1 (by have := HN.out; omega) w)
  clear e1 k72 k73 Kl
  have k72 := HK.out.at 72 _ (hash_n _ _ _)
  have Kl := HK.out.lt
  go_wp2_with (fail)
  go_at_call 11
  refine (PADC.out _).mono ?_
  rintro e w1 ⟨v1, rfl, hrow, hb⟩
  obtain ⟨q, c, rfl, hc⟩ := row_form hrow
  have BYq := Lib.hid (row_bytN (K := S) hrow HS.out.lt)
  have RC := Lib.hid (row_cap_ hrow)
  have HSk := Lib.hid (HS.out.later hb)
  have HRk := Lib.hid (HR.out.later hb)
  have HGk := Lib.hid (HG.out.later hb)
  clear HS HR HG
  have HS := HSk
  clear HSk
  have HR := HRk
  clear HRk
  have HG := HGk
  clear HGk
  have hB2 := Lib.hid (Below.go hB1.out hb)
  clear hB0 hB1 hb hrow hc k72 Kl PADC HK
  rw [padded_low] at HS
  have TC := Lib.hid (fun w h1 h2 h3 => take_any S (plen n) c n q (padded g n) RC.out.1 RC.out.2 (by have := HN.out; have := zer_lt n; unfold plen; omega) nS0 (fun j _ => in_padded IG.out j) w h1 h2 h3)
  have BY2 : Hid (BytN w1 q (plen n) (fun j => padded g n (n + j)) S) := Lib.hid (by
    rw [show (fun j => padded g n (n + j)) = padF n from funext fun j => padded_high g n j]; exact BYq.out)
  clear BYq
  go_wp2_with (fail)
  go_at_call 31
  refine (TC.out _ HG.out HS.out BY2.out).mono ?_
  rintro e w2 ⟨rfl, hS2, hbut⟩
  have HS2 := Lib.hid hS2
  have HR2 := Lib.hid (HR.out.but hbut nRS)
  have hB3 := Lib.hid (hB2.out.trans (hbut.below.mono Sw))
  clear hS2 hbut HS HR HG BY2 TC hB2 RC
  obtain ⟨vf, evf⟩ : ∃ vf, chF (padded g n) ((n + plen n) / 64) = vf := ⟨_, rfl⟩
  have EVF := Lib.hid (show sumF g n = byteOf vf from by rw [← evf]; rfl)
  have HV : Hid (Has S 0 (nums .u32 vf 8) w2) := Lib.hid (by rw [← evf]; exact has_val HS2.out)
  clear evf HS2
  go_upto_region 6 with fail
  have hB0 := hB3.out
  clear hB3
  obtain ⟨W3, hW⟩ : ∃ W3, W3 = (w2.alloc (.cells #[.int .u8 0, .int .u8 0, .int .u8 0, .int .u8 0, .int .u8 0, .int .u8 0, .int .u8 0, .int .u8 0, .int .u8 0, .int .u8 0, .int .u8 0, .int .u8 0, .int .u8 0, .int .u8 0, .int .u8 0, .int .u8 0, .int .u8 0, .int .u8 0, .int .u8 0, .int .u8 0, .int .u8 0, .int .u8 0, .int .u8 0, .int .u8 0, .int .u8 0, .int .u8 0, .int .u8 0, .int .u8 0, .int .u8 0, .int .u8 0, .int .u8 0, .int .u8 0] 35)) := ⟨_, rfl⟩
  have hBx : Below w2.heap.size w2 W3 := hW ▸ (Below.al (Below.refl _ _))
  have HU : Hid (Own w2.heap.size (nums .u8 (upto (byteOf vf) 0) 32) W3) := Lib.hid (hW ▸ (show Own w2.heap.size (nums .u8 (upto (byteOf vf) 0) 32) (w2.alloc (.cells #[.int .u8 0, .int .u8 0, .int .u8 0, .int .u8 0, .int .u8 0, .int .u8 0, .int .u8 0, .int .u8 0, .int .u8 0, .int .u8 0, .int .u8 0, .int .u8 0, .int .u8 0, .int .u8 0, .int .u8 0, .int .u8 0, .int .u8 0, .int .u8 0, .int .u8 0, .int .u8 0, .int .u8 0, .int .u8 0, .int .u8 0, .int .u8 0, .int .u8 0, .int .u8 0, .int .u8 0, .int .u8 0, .int .u8 0, .int .u8 0, .int .u8 0, .int .u8 0] 35)) from Own.newAt (by simp)))
  rw [← hW]
  clear hW
  obtain ⟨U_, eU_⟩ : ∃ X, X = w2.heap.size := ⟨_, rfl⟩
  rw [← eU_] at HU ⊢
  have U_w : w2.heap.size ≤ U_ := by omega
  clear eU_
  have nU_R : U_ ≠ R := by have := HR2.out.lt; omega
  have nRU_ : R ≠ U_ := Ne.symm nU_R
  have nU_S : U_ ≠ S := by have := HV.out.lt; omega
  have nSU_ : S ≠ U_ := Ne.symm nU_S
  have U_w2 : w.heap.size ≤ U_ := by have := hB0.size; omega
  clear U_w
  have U_w := U_w2
  clear U_w2
  have HR2k := Lib.hid (HR2.out.later hBx)
  have HVk := Lib.hid (HV.out.later hBx)
  clear HR2 HV
  have HR2 := HR2k
  clear HR2k
  have HV := HVk
  clear HVk
  have hB0n := Below.go hB0 hBx
  clear hB0 hBx
  have hB0 := hB0n
  clear hB0n
  go_wp2_with (fail)
  go_loopw [25] (fun iv wr => ∃ (i : Nat), i ≤ 32 ∧ iv = .int .i64 i ∧ Hid (Below w.heap.size w wr) ∧ Hid (Has S 0 (nums .u32 vf 8) wr) ∧ Hid (Own R (nums .u8 (fun _ => 0) 32) wr) ∧ Hid (Own U_ (nums .u8 (upto (byteOf vf) i) 32) wr)) (fun iv _ => (32 - (intOf iv).toNat))
  case atStart => exact ⟨0, Nat.zero_le _, rfl, Lib.hid hB0, HV, HR2, HU⟩
  case round =>
    clear HV HR2 HU hB0
    obtain ⟨i, hi, rfl, HB, HV, HR, HU⟩ := hrel
    by_cases hlt : i < 32
    · obtain ⟨a, ea⟩ : ∃ a, i / 4 = a := ⟨_, rfl⟩
      obtain ⟨b, eb⟩ : ∃ b, i % 4 = b := ⟨_, rfl⟩
      obtain ⟨p, ep⟩ : ∃ p, 8 * b = p := ⟨_, rfl⟩
      obtain ⟨m, em⟩ : ∃ m, 24 - p = m := ⟨_, rfl⟩
      have VV := HV.out.cell a _ (nums_at .u32 vf (show a < 8 by omega))
      rw [Nat.zero_add] at VV
      have Sl := HV.out.lt
      have FU := HU.out.ok i (by rw [nums_length]; exact hlt)
      have CU := HU.out.at i _ (nums_at .u8 _ hlt)
      have Ul := HU.out.lt
      have E : byteOf vf i = vf a / (2 : Int) ^ m % 256 := by
        unfold byteOf
        rw [ea, eb, ep, em]
        push_cast
        rfl
      obtain ⟨x, ex⟩ : ∃ x, vf a = x := ⟨_, rfl⟩
      rw [ex] at E VV
      obtain ⟨y, ey⟩ : ∃ y, x / (2 : Int) ^ m = y := ⟨_, rfl⟩
      rw [ey] at E
      obtain ⟨z, ez⟩ : ∃ z, y % 256 = z := ⟨_, rfl⟩
      rw [ez] at E
      have gz : IntKind.u8.wrap y = z := (IntKind.wrap_u8' _).trans ez
      have XS := upto_step .u8 (byteOf vf) i 32 z E.symm
      have q1 : (i : Int).tdiv 4 = (a : Int) := tdiv4 _ _ ea
      have q2 : (i : Int).tmod 4 = (b : Int) := tmod4 _ _ eb
      have q1' : (i : Int) / 4 = (a : Int) := by omega
      have q2' : (i : Int) % 4 = (b : Int) := by omega
      have s1 : (b : Int) * 8 = (p : Int) := by omega
      have s1' : 8 * (b : Int) = (p : Int) := by omega
      have s2 : 24 - (p : Int) = (m : Int) := by omega
      have wa : IntKind.i64.wrap (a : Int) = (a : Int) := IntWalk.i64_in _ (by omega)
      have wb : IntKind.i64.wrap (b : Int) = (b : Int) := IntWalk.i64_in _ (by omega)
      have wp : IntKind.i64.wrap (p : Int) = (p : Int) := IntWalk.i64_in _ (by omega)
      have wm : IntKind.i64.wrap (m : Int) = (m : Int) := IntWalk.i64_in _ (by omega)
      have mm : min m 32 = m := by omega
      have mm2 : min m 64 = m := by omega
      have hii : (i : Int) < 32 := by omega
      have i0 : (0 : Int) ≤ (i : Int) := by omega
      have a0 : (0 : Int) ≤ (a : Int) := by omega
      have a1 : (a : Int) < 8 := by omega
      have m0 : (0 : Int) ≤ (m : Int) := by omega
      have wi : IntKind.i64.wrap ((i : Int) + 1) = (i : Int) + 1 := IntWalk.i64_in _ (by omega)
      have O1 := Lib.hid (XS ▸ own_set (v := z) HU.out hlt)
      have O2 := Lib.hid (Has.far (c := U_) (o := i) (vs := [.int .u8 z]) HV.out nSU_)
      have O3 := Lib.hid (Own.far (c := U_) (o := i) (vs := [.int .u8 z]) HR.out nRU_)
      have O4 := Lib.hid (Below.setCells HB.out U_w [.int .u8 z] i)
      have HLT := Lib.hid hlt
      clear hlt hi ea eb ep em E XS ex HV HR HU HB
      go_wp2_with (fail)
      go_roundw
      case rel => (first | exact ⟨i + 1, HLT.out, by go_num, O4, O2, O3, O1⟩ | ((repeat apply Exists.intro); exact ⟨⟨i + 1, HLT.out, by go_num, O4, O2, O3, O1⟩, rfl⟩))
      case measure => (have := HLT.out; simp [intOf]; omega)
    · obtain rfl : i = 32 := by omega
      clear hlt hi
      rw [upto_all] at HU
      go_upto_region 11 with fail
      have hB0 := HB.out
      refine wp_region_lit ?_
      refine wpList_load_mid rfl 35 _ rfl U_ 0 rfl (nums .u8 (byteOf vf) 32) _ HU.out.cell Tryd.underlying35 rfl (by kernel_rfl) ?_
      refine wpList_store_mid rfl 35 _ _ rfl R 0 (nums .u8 (byteOf vf) 32).toArray rfl rfl HR.out.free (by kernel_rfl) (nums_all _ _ _) ?_
      change wpList _ _ _ [] _ (wr.setCells R 0 (nums .u8 (byteOf vf) 32))
      have HRn : Hid (Own R (nums .u8 (byteOf vf) 32) (wr.setCells R 0 (nums .u8 (byteOf vf) 32))) := Lib.hid (Own.store HR.out (by simp [nums_length]))
      have HUn : Hid (Own U_ (nums .u8 (byteOf vf) 32) (wr.setCells R 0 (nums .u8 (byteOf vf) 32))) := Lib.hid (Own.far (o := 0) (vs := (nums .u8 (byteOf vf) 32)) HU.out nU_R)
      have hB0n : Below w.heap.size w (wr.setCells R 0 (nums .u8 (byteOf vf) 32)) := Below.setCells hB0 Rw (nums .u8 (byteOf vf) 32) 0
      clear HR HU hB0
      generalize (wr.setCells R 0 (nums .u8 (byteOf vf) 32)) = wz at *
      have HR := HRn
      clear HRn
      have HU := HUn
      clear HUn
      have hB0 := hB0n
      clear hB0n
      go_wp2_with (fail)
      rw [EVF.out]
      have hL := run_loadVar_mid (P := Tryd.prog) _ R 0 35 (nums .u8 (byteOf vf) 32) _ HR.out.cell Tryd.underlying35 rfl (by kernel_rfl)
      exact bodyPost_ret (v := .agg (nums .u8 (byteOf vf) 32).toArray) (res_cell Tryd.results25 rfl hL) rfl ⟨rfl, hB0⟩
end Go.Proofs.YtajejlaoompieaaDoor
