/- StreamBlock: the walk. -/
import Derived.Test.YtbepgbpmgiihbaaDoorJI
import Derived.Test.YtbepgbpmgiihbaaDoorCO
import Derived.Test.YtbepgbpmgiihbaaDoorHU
import Derived.Lib.Hide
import Derived.LoopN
import Derived.LoopTactic
import Derived.Deep.Onto
import Derived.Deep.WholeRow
namespace Go.Proofs.YtbepgbpmgiihbaaDoor
set_option linter.unusedVariables false
set_option maxRecDepth 2000
set_option linter.unusedSimpArgs false
open Go.RowKit
attribute [local go_sem] nums_length st64
theorem nonce_px (px a b : Int) (hp : 0 ≤ px ∧ px < 65536) (ha : px % 256 = a) (hb : px / 256 % 256 = b) :
    (#[.int .u8 a, .int .u8 b, .int .u8 0, .int .u8 0, .int .u8 0, .int .u8 0, .int .u8 0, .int .u8 0, .int .u8 0, .int .u8 0, .int .u8 0, .int .u8 0] : Array Value) = (nums .u8 (nonF px 0) 12).toArray := by
  have e0 : nonF px 0 0 = a := by rw [← ha]; show px / 1 % 256 = px % 256; omega
  have e1 : nonF px 0 1 = b := by rw [← hb]; rfl
  have e2 : nonF px 0 2 = 0 := by show px / 65536 % 256 = 0; omega
  have e3 : nonF px 0 3 = 0 := by show px / 16777216 % 256 = 0; omega
  have e : nums .u8 (nonF px 0) 12 = [.int .u8 (nonF px 0 0), .int .u8 (nonF px 0 1), .int .u8 (nonF px 0 2), .int .u8 (nonF px 0 3), .int .u8 0, .int .u8 0, .int .u8 0, .int .u8 0, .int .u8 0, .int .u8 0, .int .u8 0, .int .u8 0] := by kernel_rfl
  rw [e, e0, e1, e2, e3]

theorem at10_word (sd px bo : Int) (k : Nat) (hp : 0 ≤ px ∧ px < 65536) (hb : 0 ≤ bo ∧ bo < 256) (hk : k < 64) : at10 sd px 0 bo (k : Int) = word (strF (keyF sd) (bo * 4) (nonF px 0)) (4 * k) := by
  unfold at10 atF
  rw [show px % 4294967296 = px by omega, show (0 : Int) % 4294967296 = 0 from rfl]
  have ei : idxN (k : Int) = 4 * (k % 16) := by unfold idxN; omega
  have ec : cntF bo (k : Int) = (bo * 4 + ((k / 16 : Nat) : Int)) % 4294967296 := by unfold cntF; omega
  have e : ∀ j, j < 4 → strF (keyF sd) (bo * 4) (nonF px 0) (4 * k + j) = blkF (keyF sd) (cntF bo (k : Int)) (nonF px 0) (idxN (k : Int) + j) := fun j hj => by
    unfold strF
    rw [ec, ei, show (4 * k + j) / 64 = k / 16 by omega, show (4 * k + j) % 64 = 4 * (k % 16) + j by omega]
  have h0 := e 0 (by decide); have h1 := e 1 (by decide); have h2 := e 2 (by decide); have h3 := e 3 (by decide)
  rw [Nat.add_zero, Nat.add_zero] at h0
  unfold word
  rw [h0, h1, h2, h3]

set_option maxHeartbeats 8000000 in
theorem SBlock_law (sd px bo : Int) (hs : in64u sd) (hp : 0 ≤ px ∧ px < 65536) (hb : 0 ≤ bo ∧ bo < 256) (w : World) (hg : Has 0 0 GL w) :
    Calls Tryd.prog 5 #[.int .u64 sd, .int .u16 px, .int .u8 bo] w fun e w' => e = .returned (.bool true) ∧ Below w.heap.size w w' := by
  have FS := Lib.hid hs; have HG := Lib.hid hg
  have FK := Lib.hid (Key_any sd hs)
  have k0 : Hid (0 < w.heap.size) := Lib.hid hg.lt
  obtain ⟨i0, hi, hz0, hz1, hz2⟩ := infoB_parts
  obtain ⟨n0, en0⟩ : ∃ z, px % 256 = z := ⟨_, rfl⟩
  have NP := Lib.hid (nonce_px px n0 (px / 256) hp en0 (by omega))
  have vb : bo % 4294967296 = bo := by omega
  obtain ⟨c0, ec⟩ : ∃ z, bo * 4 = z := ⟨_, rfl⟩
  have ec2 : c0 % 4294967296 = c0 := by omega
  have C0 := Lib.hid (show 0 ≤ c0 ∧ c0 < 1024 by omega)
  have hbo := hb
  clear hs hg hb
  go_enter Tryd.func5, Tryd.ntmps5
  go_wp2_with (fail)
  go_loopw [7, 12] (fun v iv wr => ∃ (k : Nat) (p : Option Addr) (cp : Nat), k ≤ 4 ∧ v = .slice p (64 * k) cp ∧ iv = .int .i64 k ∧ Hid (wr.ownsRow w.heap.size 5 1 (.slice p (64 * k) cp) (64 * k) (nums .u8 (strF (keyF sd) c0 (nonF px 0)) (64 * k))) ∧ Hid (Below w.heap.size w wr) ∧ Hid (Has 0 0 GL wr)) (fun _ iv _ => (4 - (intOf iv).toNat))
  case atStart => exact ⟨0, none, 0, Nat.zero_le _, rfl, rfl, Lib.hid (World.ownsRow_nil _ _ _ _), Lib.hid (Below.refl _ _), HG⟩
  case round =>
    clear HG
    obtain ⟨k, p, cp, hk, rfl, rfl, ROW, HB, HG⟩ := hrel
    by_cases hlt : k < 4
    · obtain ⟨L, eL⟩ : ∃ L, 64 * k = L := ⟨_, rfl⟩
      rw [eL] at ROW ⊢
      have ki : (k : Int) < 4 := by omega
      have kk : (k : Int) % 4294967296 = (k : Int) := by omega
      have wk : IntKind.i64.wrap ((k : Int) + 1) = (k : Int) + 1 := IntWalk.i64_in _ (by omega)
      obtain ⟨cc, ecc⟩ : ∃ z, c0 + (k : Int) = z := ⟨_, rfl⟩
      have ecm : cc % 4294967296 = cc := by have := C0.out; omega
      have HCC := Lib.hid (show (c0 + (k : Int)) % 4294967296 = cc by rw [ecc]; exact ecm)
      have IC := Lib.hid (show in32 cc by have := C0.out; unfold in32; omega)
      have HL := Lib.hid eL
      have HE := Lib.hid (show k + 1 ≤ 4 by omega)
      clear hk hlt eL
      go_wp2_with (fail)
      go_at_call 12
      refine (FK.out _).mono ?_
      rintro e w5 ⟨rfl, hb⟩
      replace ROW := Lib.hid (row_later ROW.out hb)
      replace HG := Lib.hid (HG.out.later hb)
      replace HB := Lib.hid (Below.go HB.out hb)
      clear hb
      go_wp2_with (fail)
      rw [NP.out]
      go_at_call 11
      refine (Block_any (keyF sd) (nonF px 0) cc (fun i _ => in_keyF sd i) (fun i _ => in_nonF px 0 i) IC.out _ HG.out).mono ?_
      rintro e w6 ⟨rfl, hb⟩
      replace ROW := Lib.hid (row_later ROW.out hb)
      replace HG := Lib.hid (HG.out.later hb)
      have hB0 := Below.go HB.out hb
      clear hb HB
      go_upto_region 6 with fail
      obtain ⟨W6, hW⟩ : ∃ W6, W6 = (w6.alloc (.cells (nums .u8 (blkF (keyF sd) cc (nonF px 0)) 64).toArray 35)) := ⟨_, rfl⟩
      have hBx : Below w6.heap.size w6 W6 := hW ▸ (Below.al (Below.refl _ _))
      have HX : Hid (Own w6.heap.size (nums .u8 (blkF (keyF sd) cc (nonF px 0)) 64) W6) := Lib.hid (hW ▸ (show Own w6.heap.size (nums .u8 (blkF (keyF sd) cc (nonF px 0)) 64) (w6.alloc (.cells (nums .u8 (blkF (keyF sd) cc (nonF px 0)) 64).toArray 35)) from Own.newAt (by simp)))
      rw [← hW]
      clear hW
      obtain ⟨X, eX⟩ : ∃ X, X = w6.heap.size := ⟨_, rfl⟩
      rw [← eX] at HX ⊢
      have Xw : w6.heap.size ≤ X := by omega
      clear eX
      have nX0 : X ≠ 0 := by have := HG.out.lt; omega
      have n0X : 0 ≠ X := Ne.symm nX0
      have Xw2 : w.heap.size ≤ X := by have := hB0.size; omega
      clear Xw
      have Xw := Xw2
      clear Xw2
      have HGk := Lib.hid (HG.out.later hBx)
      clear HG
      have HG := HGk
      clear HGk
      replace ROW := Lib.hid (row_later ROW.out hBx)
      have hB0n := Below.go hB0 hBx
      clear hB0 hBx
      have hB0 := hB0n
      clear hB0n
      have NL := Lib.hid (show (nums .u8 (blkF (keyF sd) cc (nonF px 0)) 64).length = 64 * 1 by rw [nums_length])
      have NW := Lib.hid (own_take HX.out (Nat.le_refl 64))
      have N63 := Lib.hid (show L + 64 ≤ maxLen by have := HL.out; have := HE.out; unfold maxLen; omega)
      have NBY := Lib.hid (show (L + 64) * 1 ≤ 140737488355328 by have := HL.out; have := HE.out; omega)
      have HS6 := Lib.hid hB0.size
      have XS := Lib.hid (nums_append .u8 (strF (keyF sd) c0 (nonF px 0)) (blkF (keyF sd) cc (nonF px 0)) L 64 (fun j hj => by rw [← HL.out, strF_blk _ _ _ k j hj, HCC.out]))
      have HB0 := Lib.hid hB0
      have HL2 := Lib.hid (show L + 64 = 64 * (k + 1) by have := HL.out; omega)
      clear hB0 nX0 n0X
      go_wp2_with (at_builtin; refine wpList_append_own _ rfl _ _ 42 rfl w.heap.size 5 i0 (.int .u8 0) 1 1 Tryd.underlying42 hi hz0 hz1 hz2 rfl (by decide) _ L _ rfl ROW.out ⟨X, 0, none⟩ 64 64 (nums .u8 (blkF (keyF sd) cc (nonF px 0)) 64) rfl NL.out NW.out (nums_one _ _ _) N63.out NBY.out HS6.out ?_; intro v' w7 hrow hgr _; obtain ⟨p', c', rfl, _⟩ := row_form hrow; rw [XS.out, HL2.out] at hrow; have hn3 := row_ne ROW.out k0.out; have o3 := Lib.hid (HG.out.grown hgr hn3); have o4 := Lib.hid (HB0.out.grown hgr HB0.out.size fun q hq => row_ge ROW.out q hq); have o6 := Lib.hid hrow; clear hrow hgr hn3; rw [HL2.out])
      go_roundw
      case rel => (first | exact ⟨k + 1, p', c', HE.out, rfl, by go_num, o6, o4, o3⟩ | ((repeat apply Exists.intro); exact ⟨⟨k + 1, p', c', HE.out, rfl, by go_num, o6, o4, o3⟩, rfl⟩))
      case measure => have := HE.out; simp [intOf]; omega
    · have e4 : k = 4 := by omega
      subst e4
      rw [show 64 * 4 = 256 from rfl] at ROW
      obtain ⟨g, c2, e2, _⟩ := row_blk ROW.out (by decide)
      cases e2
      have HA := Lib.hid (row_has ROW.out).1
      clear ROW hk hlt
      obtain ⟨w8, e8⟩ : ∃ x, x = wr := ⟨_, rfl⟩
      rw [← e8] at HA HB HG ⊢
      clear e8
      go_wp2_with (fail)
      go_loopw [34] (fun iv wr => ∃ (k : Nat), k ≤ 64 ∧ iv = .int .i64 k ∧ Hid (Below w.heap.size w wr) ∧ Hid (Has g 0 (nums .u8 (strF (keyF sd) c0 (nonF px 0)) 256) wr) ∧ Hid (Has 0 0 GL wr)) (fun iv _ => (64 - (intOf iv).toNat))
      case atStart => exact ⟨0, Nat.zero_le _, rfl, HB, HA, HG⟩
      case round =>
        clear HB HA HG
        obtain ⟨k, hk, rfl, HB, HA, HG⟩ := hrel
        by_cases hlt : k < 64
        · have W4 := Lib.hid (at10_word sd px bo k hp hbo hlt)
          rw [ec] at W4
          have ki : (k : Int) < 64 := by omega
          have wk : IntKind.i64.wrap ((k : Int) + 1) = (k : Int) + 1 := IntWalk.i64_in _ (by omega)
          have HE := Lib.hid (show k + 1 ≤ 64 by omega)
          have FA := Lib.hid (At_any sd px 0 bo (k : Int) FS.out (by unfold inI; omega) (by unfold inI; decide) (by unfold inI; omega) (by unfold inI; omega))
          obtain ⟨a0, ea0⟩ : ∃ z, 4 * k = z := ⟨_, rfl⟩
          obtain ⟨a1, ea1⟩ : ∃ z, a0 + 1 = z := ⟨_, rfl⟩
          obtain ⟨a2, ea2⟩ : ∃ z, a0 + 2 = z := ⟨_, rfl⟩
          obtain ⟨a3, ea3⟩ : ∃ z, a0 + 3 = z := ⟨_, rfl⟩
          have m4 : 4 * (k : Int) = (a0 : Int) := by omega
          have m5 : (a0 : Int) + 1 = (a1 : Int) := by omega
          have m6 : (a0 : Int) + 2 = (a2 : Int) := by omega
          have m7 : (a0 : Int) + 3 = (a3 : Int) := by omega
          have v4 : IntKind.i64.wrap (a0 : Int) = (a0 : Int) := IntWalk.i64_in _ (by omega)
          have v5 : IntKind.i64.wrap (a1 : Int) = (a1 : Int) := IntWalk.i64_in _ (by omega)
          have v6 : IntKind.i64.wrap (a2 : Int) = (a2 : Int) := IntWalk.i64_in _ (by omega)
          have v7 : IntKind.i64.wrap (a3 : Int) = (a3 : Int) := IntWalk.i64_in _ (by omega)
          have r0 : (a0 : Int) < 256 := by omega
          have r1 : (a1 : Int) < 256 := by omega
          have r2 : (a2 : Int) < 256 := by omega
          have r3 : (a3 : Int) < 256 := by omega
          have s0 : (0 : Int) ≤ (a0 : Int) := by omega
          have s1 : (0 : Int) ≤ (a1 : Int) := by omega
          have s2 : (0 : Int) ≤ (a2 : Int) := by omega
          have s3 : (0 : Int) ≤ (a3 : Int) := by omega
          have R0 := Lib.hid (show a0 < 256 by omega); have R1 := Lib.hid (show a1 < 256 by omega); have R2 := Lib.hid (show a2 < 256 by omega); have R3 := Lib.hid (show a3 < 256 by omega)
          rw [ea0] at W4
          unfold word at W4
          rw [ea1, ea2, ea3] at W4
          obtain ⟨y0, ey0⟩ : ∃ z, strF (keyF sd) c0 (nonF px 0) a0 = z := ⟨_, rfl⟩
          obtain ⟨y1, ey1⟩ : ∃ z, strF (keyF sd) c0 (nonF px 0) a1 = z := ⟨_, rfl⟩
          obtain ⟨y2, ey2⟩ : ∃ z, strF (keyF sd) c0 (nonF px 0) a2 = z := ⟨_, rfl⟩
          obtain ⟨y3, ey3⟩ : ∃ z, strF (keyF sd) c0 (nonF px 0) a3 = z := ⟨_, rfl⟩
          rw [ey0, ey1, ey2, ey3] at W4
          have b0 : inB y0 := ey0 ▸ in_strF _ _ _ _
          have b1 : inB y1 := ey1 ▸ in_strF _ _ _ _
          have b2 : inB y2 := ey2 ▸ in_strF _ _ _ _
          have b3 : inB y3 := ey3 ▸ in_strF _ _ _ _
          obtain ⟨x, ex⟩ : ∃ z, at10 sd px 0 bo (k : Int) = z := ⟨_, rfl⟩
          rw [ex] at W4 FA
          have W5 := W4.out
          have x0 : x % 256 = y0 := by unfold inB at *; omega
          have x1 : x / 256 % 256 = y1 := by unfold inB at *; omega
          have x2 : x / 65536 % 256 = y2 := by unfold inB at *; omega
          have x3 : x / 16777216 % 256 = y3 := by unfold inB at *; omega
          have E0 := Lib.hid ey0; have E1 := Lib.hid ey1; have E2 := Lib.hid ey2; have E3 := Lib.hid ey3
          clear W4 W5 ea0 ea1 ea2 ea3 ey0 ey1 ey2 ey3 b0 b1 b2 b3 ex hk hlt
          go_wp2_with (fail)
          go_at_call 6
          refine (FA.out _ HG.out).mono ?_
          rintro e w9 ⟨rfl, hb⟩
          replace HA := Lib.hid (HA.out.later hb)
          replace HG := Lib.hid (HG.out.later hb)
          replace HB := Lib.hid (Below.go HB.out hb)
          have z0 : w9.cell? ⟨g, a0, none⟩ = some (.int .u8 y0) := by have := HA.out.cell a0 _ (nums_at .u8 _ R0.out); rwa [Nat.zero_add, E0.out] at this
          have z1 : w9.cell? ⟨g, a1, none⟩ = some (.int .u8 y1) := by have := HA.out.cell a1 _ (nums_at .u8 _ R1.out); rwa [Nat.zero_add, E1.out] at this
          have z2 : w9.cell? ⟨g, a2, none⟩ = some (.int .u8 y2) := by have := HA.out.cell a2 _ (nums_at .u8 _ R2.out); rwa [Nat.zero_add, E2.out] at this
          have z3 : w9.cell? ⟨g, a3, none⟩ = some (.int .u8 y3) := by have := HA.out.cell a3 _ (nums_at .u8 _ R3.out); rwa [Nat.zero_add, E3.out] at this
          clear hb
          go_wp2_with (fail)
          go_roundw
          case rel => (first | exact ⟨k + 1, HE.out, by go_num, HB, HA, HG⟩ | ((repeat apply Exists.intro); exact ⟨⟨k + 1, HE.out, by go_num, HB, HA, HG⟩, rfl⟩))
          case measure => have := HE.out; simp [intOf]; omega
        · have e64 : k = 64 := by omega
          subst e64
          go_wp2_with (fail)
          go_at_call 8
          refine (works10_any _).mono ?_
          rintro e w9 ⟨rfl, hb⟩
          have hB9 := Below.go HB.out hb
          go_wp2_with (fail)
          go_ret
          exact ⟨rfl, hB9⟩
end Go.Proofs.YtbepgbpmgiihbaaDoor
