/- The document's Blocks. -/
import Derived.Test.YtbofihejegbfhaaNJ
import Derived.Lib.Hide
import Derived.Deep.Onto
import Derived.Deep.Upon
import Derived.Great.BuildSlice
namespace Go.Proofs.Ytbofihejegbfhaa
set_option linter.unusedVariables false
set_option maxRecDepth 2000
set_option linter.unusedSimpArgs false
open Go.RowKit
attribute [local go_sem] nums_length
theorem fillT (g : Nat → Int) (t n : Nat) : nums .u8 (at1 (fun j => if j < t then g j else 0) t (g t)) n = nums .u8 (fun j => if j < t + 1 then g j else 0) n := nums_congr _ fun j _ => by
  unfold at1
  dsimp only
  by_cases h : j = t
  · rw [if_pos h, if_pos (by omega), h]
  · rw [if_neg h]
    by_cases h2 : j < t
    · rw [if_pos h2, if_pos (by omega)]
    · rw [if_neg h2, if_neg (by omega)]

set_option maxHeartbeats 2000000 in
theorem RBlocks_any (f : Nat → Int) (p : Option Addr) (N c m : Nat) (hN6 : N ≤ 65536) (hn : N ≤ c) (hc : c ≤ 9223372036854775807) (hm : m = (N + 15) / 16) (w : World) (hb : Byt w p N f) :
    Calls Try.prog 20 #[.slice p N c] w fun e w' => ∃ v, e = .returned v ∧ w'.ownsRow w.heap.size 48 17 v m (nums .u8 (rowF f N) (m * 17)) ∧ Below w.heap.size w w' := by
  have HNC := Lib.hid hn; have HC := Lib.hid hc; have HB0 := Lib.hid hb; have HM := Lib.hid hm; have HN6 := Lib.hid hN6
  have CU := Lib.hid (fun w => Cut_any p N c hN6 w)
  have PB : Hid (∀ b off, N ≠ 0 → p = some ⟨b, off, none⟩ → b < w.heap.size) := Lib.hid fun b off h0 he => by
    obtain ⟨b', off', e2, h2⟩ := hb.resolve_left h0
    rw [he] at e2
    cases e2
    exact h2.lt
  obtain ⟨i0, hi, hz0, hz1, hz2⟩ := infoK_parts
  clear hn hc hb hm hN6
  go_enter Try.func20, Try.ntmps20
  go_wp2_with (fail); go_at_call 30; refine (CU.out _).mono ?_; rintro e w1 ⟨rfl, hbw⟩
  have BY := Lib.hid (HB0.out.later hbw)
  have HBw := Lib.hid hbw
  clear HB0 hbw CU
  go_wp2_with (fail)
  go_loopw [3, 4] (fun v av wr => ∃ (k a : Nat) (p3 : Option Addr) (c3 : Nat), k ≤ m ∧ a = 16 * k ∧ v = .slice p3 k c3 ∧ av = .int .i64 a ∧ Hid (wr.ownsRow w.heap.size 48 17 (.slice p3 k c3) k (nums .u8 (rowF f N) (k * 17))) ∧ Hid (Byt wr p N f) ∧ Hid (Below w.heap.size w wr)) (fun _ av _ => (16 * m - (intOf av).toNat))
  case atStart => exact ⟨0, 0, _, _, Nat.zero_le _, rfl, rfl, rfl, Lib.hid (by rw [Nat.zero_mul]; exact World.ownsRow_nil _ _ _ _), BY, HBw⟩
  case round =>
    clear BY HBw
    obtain ⟨k, a, p3, c3, hk, ea, rfl, rfl, ROW, BY, HB⟩ := hrel
    by_cases hlt : k < m
    · have haN : a < N := by have := HM.out; omega
      obtain ⟨b, off, rfl, hbs⟩ : ∃ b off, p = some ⟨b, off, none⟩ ∧ Has b off (nums .u8 f N) wr := BY.out.resolve_left (by omega)
      have HS := Lib.hid hbs
      have bw := PB.out b off (by omega) rfl
      have BD := Lib.hid (blk_done f N k (min 16 (N - 16 * k)) (by omega) rfl)
      have h1 : (a : Int) < (N : Int) := by omega
      have h0 : (0 : Int) ≤ (a : Int) := by omega
      have a63 : IntKind.i64.wrap ((a : Int) + 16) = (a : Int) + 16 := IntWalk.i64_in _ (by have := HN6.out; omega)
      have EA := Lib.hid ea; have HK := Lib.hid hlt
      have hB0 := HB.out
      have BW := Lib.hid bw
      clear hbs BY ea hk haN HB bw
      have RN := fun X hX => row_new (X := X) ROW.out hX
      go_wp2_with (fail)
      obtain ⟨W2, hW⟩ : ∃ W2, W2 = (wr.alloc (.cells #[.int .u8 0, .int .u8 0, .int .u8 0, .int .u8 0, .int .u8 0, .int .u8 0, .int .u8 0, .int .u8 0, .int .u8 0, .int .u8 0, .int .u8 0, .int .u8 0, .int .u8 0, .int .u8 0, .int .u8 0, .int .u8 0, .int .u8 0] 48)) := ⟨_, rfl⟩
      have hBx : Below wr.heap.size wr W2 := hW ▸ (Below.al (Below.refl _ _))
      have HX : Hid (Own wr.heap.size (nums .u8 (fun _ => 0) 17) W2) := Lib.hid (hW ▸ (show Own wr.heap.size (nums .u8 (fun _ => 0) 17) (wr.alloc (.cells #[.int .u8 0, .int .u8 0, .int .u8 0, .int .u8 0, .int .u8 0, .int .u8 0, .int .u8 0, .int .u8 0, .int .u8 0, .int .u8 0, .int .u8 0, .int .u8 0, .int .u8 0, .int .u8 0, .int .u8 0, .int .u8 0, .int .u8 0] 48)) from Own.newAt (by simp)))
      rw [← hW]
      clear hW
      obtain ⟨X, eX⟩ : ∃ X, X = wr.heap.size := ⟨_, rfl⟩
      rw [← eX] at HX ⊢
      have Xw : wr.heap.size ≤ X := by omega
      clear eX
      have nXb : X ≠ b := by have := HS.out.lt; omega
      have nbX : b ≠ X := Ne.symm nXb
      have Xw2 : w.heap.size ≤ X := by have := hB0.size; omega
      have RX := RN X Xw
      clear Xw RN
      have Xw := Xw2
      clear Xw2
      have HSk := Lib.hid (HS.out.later hBx)
      clear HS
      have HS := HSk
      clear HSk
      replace ROW := Lib.hid (row_later ROW.out hBx)
      have hB0n := Below.go hB0 hBx
      clear hB0 hBx
      have hB0 := hB0n
      clear hB0n
      have HB := Lib.hid hB0
      clear hB0
      have HX0 : Hid (Own X (nums .u8 (fun j => if j < 0 then f (16 * k + j) else 0) 17) W2) := Lib.hid (by rw [show nums .u8 (fun j => if j < 0 then f (16 * k + j) else 0) 17 = nums .u8 (fun _ => 0) 17 from nums_congr _ fun j _ => rfl]; exact HX.out)
      clear HX
      go_loopw [6] (fun tv ws => ∃ (t : Nat), t ≤ min 16 (N - 16 * k) ∧ tv = .int .i64 t ∧ Hid (ws.ownsRow w.heap.size 48 17 (.slice p3 k c3) k (nums .u8 (rowF f N) (k * 17))) ∧ Hid (Has b off (nums .u8 f N) ws) ∧ Hid (Own X (nums .u8 (fun j => if j < t then f (16 * k + j) else 0) 17) ws) ∧ Hid (Below w.heap.size w ws)) (fun tv _ => (16 - (intOf tv).toNat))
      case atStart => exact ⟨0, Nat.zero_le _, rfl, ROW, HS, HX0, HB⟩
      case round =>
        clear ROW HS HX0 HB
        obtain ⟨t, ht, rfl, ROW, HS, HX, HB⟩ := hrel
        by_cases htT : t < min 16 (N - 16 * k)
        · obtain ⟨s, es⟩ : ∃ s : Nat, s = a + t := ⟨_, rfl⟩
          have hs : s < N := by have := EA.out; omega
          have t17 : t < 17 := by omega
          have s0 := HS.out.at s _ (nums_at _ _ hs)
          have Sl := HS.out.lt
          have x0 := HX.out.at t _ (nums_at _ _ t17)
          have xf := HX.out.ok t (by rw [nums_length]; exact t17)
          have Xl := HX.out.lt
          have FT := fillT (fun j => f (16 * k + j)) t 17
          have e2 : f (16 * k + t) = f s := by rw [es, EA.out]
          rw [e2] at FT
          obtain ⟨x, ex⟩ : ∃ x, f s = x := ⟨_, rfl⟩
          rw [ex] at s0 FT
          have hu := Lib.hid (show t + 1 ≤ min 16 (N - 16 * k) from htT)
          have c1 : (t : Int) < 16 := by omega
          have c2 : (s : Int) < (N : Int) := by omega
          have c3' : IntKind.i64.wrap ((a : Int) + (t : Int)) = (s : Int) := by rw [IntWalk.i64_in _ (by have := HN6.out; omega)]; omega
          have c4 : (a : Int) + (t : Int) = (s : Int) := by omega
          have c5 : IntKind.i64.wrap (s : Int) = (s : Int) := IntWalk.i64_in _ (by have := HN6.out; omega)
          have t0 : (0 : Int) ≤ (t : Int) := by omega
          have s00 : (0 : Int) ≤ (s : Int) := by omega
          have t17i : (t : Int) < 17 := by omega
          have t63 : (t : Int) + 1 ≤ 9223372036854775807 := by omega
          have o1 := Lib.hid (FT ▸ own_set (v := x) HX.out t17)
          have o2 := Lib.hid (Has.far (c := X) (o := t) (vs := [.int .u8 x]) HS.out nbX)
          have o3 := Lib.hid (row_far ROW.out RX t [.int .u8 x])
          have o4 := Lib.hid (Below.setCells HB.out Xw [.int .u8 x] t)
          clear FT HX HS ROW HB es ex e2 htT ht
          go_wp2_with (fail)
          go_roundw
          case rel => (first | exact ⟨t + 1, hu.out, by go_num, o3, o2, o1, o4⟩ | ((repeat apply Exists.intro); exact ⟨⟨t + 1, hu.out, by go_num, o3, o2, o1, o4⟩, rfl⟩))
          case measure => (have := hu.out; simp [intOf]; omega)
        · have eT : t = min 16 (N - 16 * k) := by omega
          have TE := Lib.hid eT
          have BD2 := Lib.hid (eT ▸ BD.out)
          have tn : t < 17 := by omega
          have x0 := HX.out.at t _ (nums_at _ _ tn)
          have xf := HX.out.ok t (by rw [nums_length]; exact tn)
          have Xl := HX.out.lt
          have t0 : (0 : Int) ≤ (t : Int) := by omega
          have t17i : (t : Int) < 17 := by omega
          have tt : t = 16 ∨ (t < 16 ∧ a + t = N) := by have := EA.out; have := HM.out; omega
          clear ht htT eT BD
          rcases tt with t16 | ⟨t16, etN⟩
          · have tb : decide (t < 16) = false := decide_eq_false (by omega)
            have tb2 : decide ((t : Int) < 16) = false := decide_eq_false (by omega)
            clear t16
            go_upto_region 12 with fail
            rw [show (wr.setCell ⟨X, t, none⟩ (.int .u8 1)) = wr.setCells X t [.int .u8 1] from rfl]
            have OX2 := Lib.hid (BD2.out ▸ own_set (v := 1) HX.out tn)
            have OS2 := Lib.hid (Has.far (c := X) (o := t) (vs := [.int .u8 1]) HS.out nbX)
            have OB2 := Lib.hid (Below.setCells HB.out Xw [.int .u8 1] t)
            have OR2 := Lib.hid (row_far ROW.out RX t [.int .u8 1])
            clear HX HS HB ROW x0 xf Xl BD2
            generalize wr.setCells X t [.int .u8 1] = y2 at *
            refine wp_region_lit ?_
            refine wpList_move rfl _ rfl ?_
            refine wpList_load_mid rfl 48 _ rfl X 0 rfl (nums .u8 (blkB f N k) 17) _ OX2.out.cell Try.underlying48 rfl (by kernel_rfl) ?_
            refine wpList_build17 rfl _ rfl (blkB f N k) rfl ?_
            have hB0 := OB2.out
            clear OB2 nXb nbX RX Xw
            obtain ⟨W3, hW⟩ : ∃ W3, W3 = (y2.alloc (.cells (nums .u8 (blkB f N k) 17).toArray 48)) := ⟨_, rfl⟩
            have hBx : Below y2.heap.size y2 W3 := hW ▸ (Below.al (Below.refl _ _))
            have HZ : Hid (Own y2.heap.size (nums .u8 (blkB f N k) 17) W3) := Lib.hid (hW ▸ (show Own y2.heap.size (nums .u8 (blkB f N k) 17) (y2.alloc (.cells (nums .u8 (blkB f N k) 17).toArray 48)) from Own.newAt (by simp)))
            rw [← hW]
            clear hW
            obtain ⟨Z, eZ⟩ : ∃ X, X = y2.heap.size := ⟨_, rfl⟩
            rw [← eZ] at HZ ⊢
            have Zw : y2.heap.size ≤ Z := by omega
            clear eZ
            have nZb : Z ≠ b := by have := OS2.out.lt; omega
            have nbZ : b ≠ Z := Ne.symm nZb
            have Zw2 : w.heap.size ≤ Z := by have := hB0.size; omega
            clear Zw
            have Zw := Zw2
            clear Zw2
            have OS2k := Lib.hid (OS2.out.later hBx)
            clear OS2
            have OS2 := OS2k
            clear OS2k
            replace OR2 := Lib.hid (row_later OR2.out hBx)
            have hB0n := Below.go hB0 hBx
            clear hB0 hBx
            have hB0 := hB0n
            clear hB0n
            have NL := Lib.hid (show (nums .u8 (blkB f N k) 17).length = 1 * 17 by rw [nums_length])
            have NW := Lib.hid HZ.out.news
            have k6 : k < 4097 := by have := HM.out; have := HN6.out; omega
            have N63 := Lib.hid (show k + 1 ≤ maxLen by unfold maxLen; omega)
            have NBY := Lib.hid (show (k + 1) * 17 ≤ 140737488355328 by omega)
            have XS := Lib.hid (show nums .u8 (rowF f N) (k * 17) ++ nums .u8 (blkB f N k) 17 = nums .u8 (rowF f N) ((k + 1) * 17) by
              rw [nums_append .u8 (rowF f N) (blkB f N k) (k * 17) 17 (fun j hj => rowF_at f N k j hj), Nat.succ_mul])
            have HS := Lib.hid hB0.size
            have HB := Lib.hid hB0
            clear hB0 k6
            go_wp2_with (at_builtin; refine wpList_append_own _ rfl _ _ 40 rfl w.heap.size 48 i0 (.agg (nums .u8 (fun _ => 0) 17).toArray) 17 17 Try.underlying40 hi hz0 hz1 hz2 rfl (by decide) _ k _ rfl OR2.out ⟨Z, 0, none⟩ 1 1 (nums .u8 (blkB f N k) 17) rfl NL.out NW.out (nums_one _ _ _) N63.out NBY.out HS.out ?_; intro v' w6 hrow hgr _; obtain ⟨p', c', rfl, _⟩ := row_form hrow; rw [XS.out] at hrow; have o4 := Lib.hid (HB.out.grown hgr HB.out.size fun q hq => row_ge OR2.out q hq); have o6 := Lib.hid hrow; have o7 := Lib.hid (Or.inr ⟨b, off, rfl, Has.grown OS2.out hgr (row_ne OR2.out BW.out)⟩ : Byt w6 (some ⟨b, off, none⟩) N f); clear hrow hgr)
            go_roundw
            case rel => (first | exact ⟨k + 1, _, _, _, HK.out, rfl, rfl, by rw [EA.out]; go_num, o6, o7, o4⟩ | ((repeat apply Exists.intro); exact ⟨⟨k + 1, _, _, _, HK.out, rfl, rfl, by rw [EA.out]; go_num, o6, o7, o4⟩, rfl⟩))
            case measure => (have := HK.out; have := EA.out; simp [intOf]; omega)
          · have tb2 : (t : Int) < 16 := by omega
            have c4 : (a : Int) + (t : Int) = (N : Int) := by omega
            have c5 : IntKind.i64.wrap ((a : Int) + (t : Int)) = (N : Int) := by rw [IntWalk.i64_in _ (by have := HN6.out; omega)]; omega
            have c6 : IntKind.i64.wrap (N : Int) = (N : Int) := IntWalk.i64_in _ (by have := HN6.out; omega)
            clear t16 etN
            go_upto_region 12 with fail
            rw [show (wr.setCell ⟨X, t, none⟩ (.int .u8 1)) = wr.setCells X t [.int .u8 1] from rfl]
            have OX2 := Lib.hid (BD2.out ▸ own_set (v := 1) HX.out tn)
            have OS2 := Lib.hid (Has.far (c := X) (o := t) (vs := [.int .u8 1]) HS.out nbX)
            have OB2 := Lib.hid (Below.setCells HB.out Xw [.int .u8 1] t)
            have OR2 := Lib.hid (row_far ROW.out RX t [.int .u8 1])
            clear HX HS HB ROW x0 xf Xl BD2
            generalize wr.setCells X t [.int .u8 1] = y2 at *
            refine wp_region_lit ?_
            refine wpList_move rfl _ rfl ?_
            refine wpList_load_mid rfl 48 _ rfl X 0 rfl (nums .u8 (blkB f N k) 17) _ OX2.out.cell Try.underlying48 rfl (by kernel_rfl) ?_
            refine wpList_build17 rfl _ rfl (blkB f N k) rfl ?_
            have hB0 := OB2.out
            clear OB2 nXb nbX RX Xw
            obtain ⟨W3, hW⟩ : ∃ W3, W3 = (y2.alloc (.cells (nums .u8 (blkB f N k) 17).toArray 48)) := ⟨_, rfl⟩
            have hBx : Below y2.heap.size y2 W3 := hW ▸ (Below.al (Below.refl _ _))
            have HZ : Hid (Own y2.heap.size (nums .u8 (blkB f N k) 17) W3) := Lib.hid (hW ▸ (show Own y2.heap.size (nums .u8 (blkB f N k) 17) (y2.alloc (.cells (nums .u8 (blkB f N k) 17).toArray 48)) from Own.newAt (by simp)))
            rw [← hW]
            clear hW
            obtain ⟨Z, eZ⟩ : ∃ X, X = y2.heap.size := ⟨_, rfl⟩
            rw [← eZ] at HZ ⊢
            have Zw : y2.heap.size ≤ Z := by omega
            clear eZ
            have nZb : Z ≠ b := by have := OS2.out.lt; omega
            have nbZ : b ≠ Z := Ne.symm nZb
            have Zw2 : w.heap.size ≤ Z := by have := hB0.size; omega
            clear Zw
            have Zw := Zw2
            clear Zw2
            have OS2k := Lib.hid (OS2.out.later hBx)
            clear OS2
            have OS2 := OS2k
            clear OS2k
            replace OR2 := Lib.hid (row_later OR2.out hBx)
            have hB0n := Below.go hB0 hBx
            clear hB0 hBx
            have hB0 := hB0n
            clear hB0n
            have NL := Lib.hid (show (nums .u8 (blkB f N k) 17).length = 1 * 17 by rw [nums_length])
            have NW := Lib.hid HZ.out.news
            have k6 : k < 4097 := by have := HM.out; have := HN6.out; omega
            have N63 := Lib.hid (show k + 1 ≤ maxLen by unfold maxLen; omega)
            have NBY := Lib.hid (show (k + 1) * 17 ≤ 140737488355328 by omega)
            have XS := Lib.hid (show nums .u8 (rowF f N) (k * 17) ++ nums .u8 (blkB f N k) 17 = nums .u8 (rowF f N) ((k + 1) * 17) by
              rw [nums_append .u8 (rowF f N) (blkB f N k) (k * 17) 17 (fun j hj => rowF_at f N k j hj), Nat.succ_mul])
            have HS := Lib.hid hB0.size
            have HB := Lib.hid hB0
            clear hB0 k6
            go_wp2_with (at_builtin; refine wpList_append_own _ rfl _ _ 40 rfl w.heap.size 48 i0 (.agg (nums .u8 (fun _ => 0) 17).toArray) 17 17 Try.underlying40 hi hz0 hz1 hz2 rfl (by decide) _ k _ rfl OR2.out ⟨Z, 0, none⟩ 1 1 (nums .u8 (blkB f N k) 17) rfl NL.out NW.out (nums_one _ _ _) N63.out NBY.out HS.out ?_; intro v' w6 hrow hgr _; obtain ⟨p', c', rfl, _⟩ := row_form hrow; rw [XS.out] at hrow; have o4 := Lib.hid (HB.out.grown hgr HB.out.size fun q hq => row_ge OR2.out q hq); have o6 := Lib.hid hrow; have o7 := Lib.hid (Or.inr ⟨b, off, rfl, Has.grown OS2.out hgr (row_ne OR2.out BW.out)⟩ : Byt w6 (some ⟨b, off, none⟩) N f); clear hrow hgr)
            go_roundw
            case rel => (first | exact ⟨k + 1, _, _, _, HK.out, rfl, rfl, by rw [EA.out]; go_num, o6, o7, o4⟩ | ((repeat apply Exists.intro); exact ⟨⟨k + 1, _, _, _, HK.out, rfl, rfl, by rw [EA.out]; go_num, o6, o7, o4⟩, rfl⟩))
            case measure => (have := HK.out; have := EA.out; simp [intOf]; omega)
    · have hkm : k = m := by omega
      subst hkm
      have hd : decide (a < N) = false := decide_eq_false (by have := HM.out; omega)
      clear ea
      go_wp2_with (fail)
      go_ret
      exact ⟨_, rfl, ROW.out, HB.out⟩
end Go.Proofs.Ytbofihejegbfhaa
