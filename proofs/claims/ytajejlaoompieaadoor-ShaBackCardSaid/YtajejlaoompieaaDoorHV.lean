/- ShaBack: the walk. -/
import Derived.Test.YtajejlaoompieaaDoorHR
import Derived.Lib.Hide
import Derived.LoopN
import Derived.LoopTactic
import Derived.Deep.Onto
import Derived.Lib.ConvBytes
import Derived.Deep.WholeRow
namespace Go.Proofs.YtajejlaoompieaaDoor
set_option linter.unusedVariables false
set_option maxRecDepth 2000
set_option linter.unusedSimpArgs false
open Go.RowKit
theorem bytes_below (w : World) (e : TypeId) (s : ByteArray) : Below w.heap.size w (Lib.bytesWorld w e s) :=
  ⟨rfl, rfl, rfl, by rw [Lib.bytesWorld_size]; omega, fun j hj => Lib.bytesWorld_at_old w e s j hj⟩
theorem hex_two (f : Nat → Int) (k : Nat) (hk : k < 32) : (hexS f 64).extract (2 * k) (2 * k + 2) = strOfNums [hexF f (2 * k), hexF f (2 * k + 1)] := by
  unfold hexS strOfNums
  rw [ByteArray.extract_mk]
  congr 2
  rw [show 2 * k + 2 - 2 * k = 2 by omega]
  apply List.ext_getElem?
  intro j
  rw [List.getElem?_take]
  by_cases h0 : j < 2
  · rw [if_pos h0, List.getElem?_drop, List.getElem?_map, List.getElem?_map, List.getElem?_range (by omega)]
    have : j = 0 ∨ j = 1 := by omega
    rcases this with rfl | rfl <;> rfl
  · rw [if_neg h0, List.getElem?_eq_none (by simp; omega)]
theorem slice_two (f : Nat → Int) (k : Nat) (hk : k < 32) (w : World) : (Instr.sliceAt 9 (.string (hexS f 64)) (some (.int .i64 ((2 * k : Nat) : Int))) (some (.int .i64 ((2 * k + 2 : Nat) : Int))) none).run Tryd.prog w = .ok (.string (strOfNums [hexF f (2 * k), hexF f (2 * k + 1)])) w := by
  rw [run_sliceAt_string (h := Tryd.underlying9), run_slice_string w _ _ _ _ _ _ Tryd.underlying9 (by omega) (by omega) (by rw [hexS_size]; omega), Int.toNat_natCast, Int.toNat_natCast, hex_two f k hk]
theorem conv_two (x y : Int) (w : World) : (convert 9 23 (.string (strOfNums [x, y]))).run Tryd.prog w = .ok (.slice (some ⟨w.heap.size, 0, none⟩) 2 (grownCap w 2 0 5)) (Lib.bytesWorld w 5 (strOfNums [x, y])) :=
  Lib.run_convert_string_bytes (P := Tryd.prog) w 9 23 5 (strOfNums [x, y]) Tryd.underlying9 Tryd.underlying23 Tryd.underlying5
theorem cell_two (x y : Int) (hx : inB x) (hy : inB y) (w : World) : Has w.heap.size 0 [.int .u8 x, .int .u8 y] (Lib.bytesWorld w 5 (strOfNums [x, y])) where
  lt := by rw [Lib.bytesWorld_size]; omega
  cell := fun j v hv => by
    unfold inB at hx hy
    rw [Nat.zero_add]
    match j, hv with
    | 0, hv =>
      rw [Lib.bytesWorld_cell w _ _ 0 (by rw [strOfNums_size]; simp)]
      simp only [List.getElem?_cons_zero, Option.some.injEq] at hv
      subst hv
      simp [strOfNums]
      omega
    | 1, hv =>
      rw [Lib.bytesWorld_cell w _ _ 1 (by rw [strOfNums_size]; simp)]
      simp only [List.getElem?_cons_succ, List.getElem?_cons_zero, Option.some.injEq] at hv
      subst hv
      simp [strOfNums]
      omega
    | j + 2, hv => simp at hv
attribute [local go_sem] nums_length

set_option maxHeartbeats 4000000 in
theorem Back_core (f : Nat → Int) (hf : ∀ j, j < 32 → inB (f j)) (w : World) (hG : Has 0 0 (nums .u32 kC 64) w) (hH : Has 1 0 (nums .u32 hC 8) w) : Calls Tryd.prog 9 #[(.agg (nums .u8 f 32).toArray)] w fun e w' => e = .returned (.bool true) ∧ Below w.heap.size w w' := by
  have HG0 := Lib.hid hG; have HH0 := Lib.hid hH; have IF := Lib.hid hf
  obtain ⟨S_, eS⟩ : ∃ S_, hexS f 64 = S_ := ⟨_, rfl⟩
  have XC := Lib.hid (fun w => eS ▸ Hex_any f hf w)
  have ES := Lib.hid eS
  have zS : S_.size = 64 := eS ▸ hexS_size f 64
  clear hG hH hf eS
  go_enter Tryd.func9, Tryd.ntmps9
  go_upto_region 1 with fail
  obtain ⟨W0, hW⟩ : ∃ W0, W0 = (w.alloc (.cells (nums .u8 f 32).toArray 35)) := ⟨_, rfl⟩
  have hB0 : Below w.heap.size w W0 := hW ▸ (Below.al (Below.refl _ _))
  have HS : Hid (Own w.heap.size (nums .u8 f 32) W0) := Lib.hid (hW ▸ (show Own w.heap.size (nums .u8 f 32) (w.alloc (.cells (nums .u8 f 32).toArray 35)) from Own.newAt (by simp)))
  rw [← hW]
  clear hW
  obtain ⟨S, eS⟩ : ∃ X, X = w.heap.size := ⟨_, rfl⟩
  rw [← eS] at HS ⊢
  have Sw : w.heap.size ≤ S := by omega
  clear eS
  have HG := Lib.hid (HG0.out.later hB0)
  have HI := Lib.hid (HH0.out.later hB0)
  clear HG0 HH0
  refine wp_region_lit ?_
  refine wpList_load_mid rfl 35 _ rfl S 0 rfl (nums .u8 f 32) _ HS.out.cell Tryd.underlying35 rfl (by kernel_rfl) ?_
  go_wp2_with (fail)
  go_at_call 21
  refine (XC.out _).mono ?_
  rintro e w1 ⟨rfl, hb⟩
  have HSk := Lib.hid (HS.out.later hb)
  have HGk := Lib.hid (HG.out.later hb)
  have HIk := Lib.hid (HI.out.later hb)
  clear HS HG HI
  have HS := HSk
  clear HSk
  have HG := HGk
  clear HGk
  have HI := HIk
  clear HIk
  have HB := Lib.hid (Below.go hB0 hb)
  clear hb hB0 XC
  go_upto_region 4 with fail
  refine wp_region_lit ?_
  refine wpList_load_mid rfl 35 _ rfl S 0 rfl (nums .u8 f 32) _ HS.out.cell Tryd.underlying35 rfl (by kernel_rfl) ?_
  go_wp2_with (fail)
  go_loopw [15] (fun iv wr => ∃ (k : Nat), k ≤ 32 ∧ iv = .int .i64 k ∧ Hid (Below w.heap.size w wr) ∧ Hid (Has 0 0 (nums .u32 kC 64) wr) ∧ Hid (Has 1 0 (nums .u32 hC 8) wr)) (fun iv _ => (32 - (intOf iv).toNat))
  case atStart => exact ⟨0, Nat.zero_le _, rfl, HB, HG, HI⟩
  case round =>
    clear HB HG HI HS
    obtain ⟨k, hk, rfl, HB, HG, HI⟩ := hrel
    by_cases hlt : k < 32
    · have hx := index_b32 f k hlt wr
      have IX := IF.out k hlt
      obtain ⟨a, ea⟩ : ∃ a, 2 * k = a := ⟨_, rfl⟩
      obtain ⟨b, eb⟩ : ∃ b, a + 2 = b := ⟨_, rfl⟩
      have d1 := fun w => slice_two f k hlt w
      have E1 : hexF f (2 * k) = digF (f k / 16) := by unfold hexF; rw [if_pos (by omega), show 2 * k / 2 = k by omega]
      have E2 : hexF f (2 * k + 1) = digF (f k % 16) := by unfold hexF; rw [if_neg (by omega), show (2 * k + 1) / 2 = k by omega]
      obtain ⟨x, ex⟩ : ∃ x, f k = x := ⟨_, rfl⟩
      rw [ex] at hx IX E1 E2
      unfold inB at IX
      obtain ⟨h, eh⟩ : ∃ h : Nat, x / 16 = (h : Int) := ⟨(x / 16).toNat, by omega⟩
      obtain ⟨l, el⟩ : ∃ l : Nat, x % 16 = (l : Int) := ⟨(x % 16).toNat, by omega⟩
      rw [eh] at E1
      rw [el] at E2
      obtain ⟨y, ey⟩ : ∃ y, digF (h : Int) = y := ⟨_, rfl⟩
      obtain ⟨z, ez⟩ : ∃ z, digF (l : Int) = z := ⟨_, rfl⟩
      have hh : h < 16 := by omega
      have hl : l < 16 := by omega
      have hyB : inB y := by rw [← ey]; unfold digF inB; split <;> omega
      have hzB : inB z := by rw [← ez]; unfold digF inB; split <;> omega
      rw [ey] at E1
      rw [ez] at E2
      simp only [E1, E2, ES.out] at d1
      rw [ea, eb] at d1
      have CT := Lib.hid (cell_two y z hyB hzB wr)
      have BT := Lib.hid (bytes_below wr 5 (strOfNums [y, z]))
      have cv := conv_two y z wr
      obtain ⟨cp, ecp⟩ : ∃ cp, grownCap wr 2 0 5 = cp := ⟨_, rfl⟩
      rw [ecp] at cv
      obtain ⟨P_, eP⟩ : ∃ P_, strOfNums [y, z] = P_ := ⟨_, rfl⟩
      simp only [eP] at d1
      rw [eP] at cv CT BT
      have DG : Hid (∃ (dg : Nat → Nat) (ac : Nat → Int), ac 0 = 0 ∧ ac 2 = x ∧ ∀ j, j < 2 → dg j < 16 ∧ ac (j + 1) = ac j * 16 + (dg j : Int) ∧ 0 ≤ ac j ∧ ac j < 16 ∧ [Value.int .u8 y, .int .u8 z][j]? = some (.int .u8 (digF (dg j : Int)))) := Lib.hid ⟨fun j => if j = 0 then h else l, fun j => if j = 0 then 0 else if j = 1 then (h : Int) else x, rfl, rfl, fun j hj => by
        have : j = 0 ∨ j = 1 := by omega
        rcases this with rfl | rfl
        · exact ⟨hh, by simp, by simp, by simp, by simp [ey]⟩
        · exact ⟨hl, by simp; omega, by simp, by simp; omega, by simp [ez]⟩⟩
      have s1 : 2 * (k : Int) = (a : Int) := by omega
      have s2 : (a : Int) + 2 = (b : Int) := by omega
      have wa : IntKind.i64.wrap (a : Int) = (a : Int) := IntWalk.i64_in _ (by omega)
      have wb : IntKind.i64.wrap (b : Int) = (b : Int) := IntWalk.i64_in _ (by omega)
      have hki : (k : Int) < 32 := by omega
      have k0 : (0 : Int) ≤ (k : Int) := by omega
      have wk : IntKind.i64.wrap ((k : Int) + 1) = (k : Int) + 1 := IntWalk.i64_in _ (by omega)
      have HLT := Lib.hid hlt
      clear hlt hk ea eb E1 E2 ex ey ez hh hl hyB hzB eP ecp eh el
      go_wp2_with (fail)
      have B1 := Lib.hid (Below.go HB.out BT.out)
      have G1 := Lib.hid (HG.out.later BT.out)
      have I1 := Lib.hid (HI.out.later BT.out)
      obtain ⟨dg, ac, ac0, ac2, hdg⟩ := DG.out
      have HD := Lib.hid hdg
      clear cv d1 hx BT HB HG HI DG hdg s1 s2 wa wb
      obtain ⟨X, eX⟩ : ∃ X, wr.heap.size = X := ⟨_, rfl⟩
      rw [eX] at CT ⊢
      clear eX
      generalize (Lib.bytesWorld wr 5 P_) = W1_ at *
      go_loopw [6, 28] (fun nv jv wq => ∃ (j : Nat) (n : Int), j ≤ 2 ∧ ac j = n ∧ nv = .int .i64 n ∧ jv = .int .i64 j ∧ Hid (Below w.heap.size w wq) ∧ Hid (Has 0 0 (nums .u32 kC 64) wq) ∧ Hid (Has 1 0 (nums .u32 hC 8) wq) ∧ Hid (Has X 0 [.int .u8 y, .int .u8 z] wq)) (fun _ jv _ => (2 - (intOf jv).toNat))
      case atStart => exact ⟨0, 0, Nat.zero_le _, ac0, rfl, rfl, B1, G1, I1, CT⟩
      case round =>
        clear B1 G1 I1 CT
        obtain ⟨j, n, hj, en, rfl, rfl, HB, HG, HI, HX⟩ := hrel
        by_cases hjt : j < 2
        · obtain ⟨d16, dac, dn0, dn1, dcell⟩ := HD.out j hjt
          have XC := HX.out.cell j _ dcell
          rw [Nat.zero_add] at XC
          have Xl := HX.out.lt
          rw [en] at dac dn0 dn1
          obtain ⟨d, ed⟩ : ∃ d, dg j = d := ⟨_, rfl⟩
          rw [ed] at dac XC d16
          obtain ⟨m, em⟩ : ∃ m, n * 16 + (d : Int) = m := ⟨_, rfl⟩
          rw [em] at dac
          have EAC := Lib.hid dac
          obtain ⟨p, ep⟩ : ∃ p, n * 16 = p := ⟨_, rfl⟩
          rw [ep] at em
          have wp : IntKind.i64.wrap p = p := IntWalk.i64_in _ (by omega)
          have wm : IntKind.i64.wrap m = m := IntWalk.i64_in _ (by omega)
          have hji : (j : Int) < 2 := by omega
          have j0 : (0 : Int) ≤ (j : Int) := by omega
          have wj : IntKind.i64.wrap ((j : Int) + 1) = (j : Int) + 1 := IntWalk.i64_in _ (by omega)
          have HJT := Lib.hid hjt
          obtain ⟨c, ec⟩ : ∃ c, digF (d : Int) = c := ⟨_, rfl⟩
          rw [ec] at XC
          unfold digF at ec
          have wd : IntKind.i64.wrap (d : Int) = (d : Int) := IntWalk.i64_in _ (by omega)
          have wd8 : IntKind.u8.wrap (d : Int) = (d : Int) := by rw [IntKind.wrap_u8']; omega
          by_cases hd : d < 10
          · rw [if_pos (by omega)] at ec
            have g1 : decide (48 ≤ c) = true := decide_eq_true (by omega)
            have g2 : decide (c ≤ 57) = true := decide_eq_true (by omega)
            have q1 : c - 48 = (d : Int) := by omega
            have q2 : IntKind.u8.wrap (c - 48) = (d : Int) := by rw [q1]; exact wd8
            have q3 : (c - 48) % 256 = (d : Int) := by omega
            clear hjt hj en dac dn0 dn1 dcell ed ec d16 hd
            go_wp2_with (fail)
            go_roundw
            case rel => (first | exact ⟨j + 1, m, HJT.out, EAC.out, rfl, by go_num, HB, HG, HI, HX⟩ | ((repeat apply Exists.intro); exact ⟨⟨j + 1, m, HJT.out, EAC.out, rfl, by go_num, HB, HG, HI, HX⟩, rfl⟩))
            case measure => (have := HJT.out; simp [intOf]; omega)
          · rw [if_neg (by omega)] at ec
            have g1 : decide (48 ≤ c) = true := decide_eq_true (by omega)
            have g2 : decide (c ≤ 57) = false := decide_eq_false (by omega)
            have g3 : decide (97 ≤ c) = true := decide_eq_true (by omega)
            have g4 : decide (c ≤ 102) = true := decide_eq_true (by omega)
            obtain ⟨r, er⟩ : ∃ r : Nat, (r : Int) + 10 = (d : Int) := ⟨d - 10, by omega⟩
            have q1 : c - 97 = (r : Int) := by omega
            have wr8 : IntKind.u8.wrap (r : Int) = (r : Int) := by rw [IntKind.wrap_u8']; omega
            have wr64 : IntKind.i64.wrap (r : Int) = (r : Int) := IntWalk.i64_in _ (by omega)
            have q2 : IntKind.u8.wrap (c - 97) = (r : Int) := by rw [q1]; exact wr8
            have q3 : (c - 97) % 256 = (r : Int) := by omega
            obtain ⟨s, es⟩ : ∃ s, p + (r : Int) = s := ⟨_, rfl⟩
            have q4 : s + 10 = m := by omega
            have ws : IntKind.i64.wrap s = s := IntWalk.i64_in _ (by omega)
            clear hjt hj en dac dn0 dn1 dcell ed ec d16 hd er
            go_wp2_with (fail)
            go_roundw
            case rel => (first | exact ⟨j + 1, m, HJT.out, EAC.out, rfl, by go_num, HB, HG, HI, HX⟩ | ((repeat apply Exists.intro); exact ⟨⟨j + 1, m, HJT.out, EAC.out, rfl, by go_num, HB, HG, HI, HX⟩, rfl⟩))
            case measure => (have := HJT.out; simp [intOf]; omega)
        · obtain rfl : j = 2 := by omega
          rw [ac2] at en
          subst en
          have wx : IntKind.i64.wrap x = x := IntWalk.i64_in _ (by omega)
          clear hj hjt HX
          go_wp2_with (fail)
          go_roundw
          case rel => (first | exact ⟨k + 1, HLT.out, by go_num, HB, HG, HI⟩ | ((repeat apply Exists.intro); exact ⟨⟨k + 1, HLT.out, by go_num, HB, HG, HI⟩, rfl⟩))
          case measure => (have := HLT.out; simp [intOf]; omega)
    · obtain rfl : k = 32 := by omega
      clear hlt hk
      go_wp2_with (fail)
      go_at_call 13
      refine (works_any _ HG.out HI.out).mono ?_
      rintro e w4 ⟨rfl, hb⟩
      have B4 := Below.go HB.out hb
      go_wp2_with (fail)
      go_ret
      exact ⟨rfl, B4⟩
end Go.Proofs.YtajejlaoompieaaDoor
