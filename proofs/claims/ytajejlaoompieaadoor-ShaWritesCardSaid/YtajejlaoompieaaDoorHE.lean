/- The document's By. -/
import Derived.Test.YtajejlaoompieaaDoorHD
import Derived.Test.YtajejlaoompieaaDoorCW
import Derived.Lib.Hide
import Derived.LoopN
import Derived.LoopTactic
import Derived.Deep.Onto
import Derived.Deep.QuietTactic
import Derived.BigQuiet
import Derived.Deep.WholeRow
import Derived.Laws.OwnMore
namespace Go.Proofs.YtajejlaoompieaaDoor
set_option linter.unusedVariables false
set_option maxRecDepth 2000
set_option linter.unusedSimpArgs false
open Go.RowKit
theorem infoU : (Tryd.prog.info? 27).map (fun i => (i.zero, i.size, i.bytes)) = some (some (.int .u32 0), 1, 4) := by kernel_rfl
theorem infoU_parts : ∃ i, Tryd.prog.info? 27 = some i ∧ i.zero = some (.int .u32 0) ∧ i.size = 1 ∧ i.bytes = 4 := by
  have h := infoU
  generalize Tryd.prog.info? 27 = x at *
  match x, h with
  | some i, h =>
    simp only [Option.map_some, Option.some.injEq, Prod.mk.injEq] at h
    exact ⟨i, rfl, h.1, h.2.1, h.2.2⟩
theorem sch_grow (b : Nat → Int) (k : Nat) (v : Int) (hv : v = if k < 16 then be b k else newW (sch b k) k) : nums .u32 (sch b k) k ++ [.int .u32 v] = nums .u32 (sch b (k + 1)) (k + 1) := by
  have e : nums .u32 (sch b k) k = nums .u32 (sch b (k + 1)) k := nums_congr _ fun j hj => by
    show sch b k j = at1 (sch b k) k _ j
    unfold at1
    rw [if_neg (by omega)]
  rw [e]
  refine nums_append .u32 (sch b (k + 1)) (fun _ => v) k 1 fun j hj => ?_
  obtain rfl : j = 0 := by omega
  show at1 (sch b k) k _ (k + 0) = v
  unfold at1
  rw [if_pos (by omega), hv]
theorem stU8 (w : World) (f : Nat → Int) (c : Array Value) (hc : c.size = 8) : (storeCells ⟨w.heap.size, 0, none⟩ (nums .u32 f 8)).run Tryd.prog (w.alloc (.cells c 28)) = .ok () (w.alloc (.cells (nums .u32 f 8).toArray 28)) :=
  run_storeCells_new (P := Tryd.prog) w 28 c (nums .u32 f 8).toArray (by rw [nums_size]; kernel_rfl) (by rw [nums_size, hc]) (nums_all _ _ _)
def shiftF (s : Nat → Int) (m : Nat) : Nat → Int := fun j => if m < j then s (j - 1) else s j
theorem shift_zero (s : Nat → Int) : nums .u32 (shiftF s 7) 8 = nums .u32 s 8 := nums_congr _ fun j hj => if_neg (by omega)
theorem shift_step (s : Nat → Int) (m : Nat) (v : Int) (hv : v = s m) : nums .u32 (at1 (shiftF s (m + 1)) (m + 1) v) 8 = nums .u32 (shiftF s m) 8 := nums_congr _ fun j _ => by
  unfold at1 shiftF
  by_cases h : j = m + 1
  · rw [if_pos h, if_pos (by omega), h, hv, Nat.add_sub_cancel]
  · rw [if_neg h]
    by_cases h2 : m + 1 < j
    · rw [if_pos h2, if_pos (by omega)]
    · rw [if_neg h2, if_neg (by omega)]
theorem shift_low (s : Nat → Int) (m : Nat) : shiftF s (m + 1) m = s m := if_neg (by omega)
theorem shift_end (K W h : Nat → Int) (k : Nat) (t1 t2 n0 n4 : Int) (h1 : t1F (rnds K W h k 4) (rnds K W h k 5) (rnds K W h k 6) (rnds K W h k 7) (K k) (W k) = t1) (h2 : t2F (rnds K W h k 0) (rnds K W h k 1) (rnds K W h k 2) = t2) (h0 : add32 t1 t2 = n0) (h4 : add32 (rnds K W h k 3) t1 = n4) :
    nums .u32 (at1 (at1 (shiftF (rnds K W h k) 0) 4 n4) 0 n0) 8 = nums .u32 (rnds K W h (k + 1)) 8 := nums_congr _ fun j hj => by
  subst h1 h2 h0 h4
  show _ = stp (rnds K W h k) (K k) (W k) j
  unfold at1 shiftF stp
  by_cases h : j = 0
  · rw [if_pos h, if_pos h]
  · rw [if_neg h, if_neg h]
    by_cases h4 : j = 4
    · rw [if_pos h4, if_pos h4]
    · rw [if_neg h4, if_neg h4, if_pos (by omega)]
attribute [local go_sem] nums_length stU8 not_form

set_option maxHeartbeats 8000000 in
theorem By_any (kf hf bf : Nat → Int) (hk : ∀ i, i < 64 → in32 (kf i)) (hh : ∀ j, j < 8 → in32 (hf j)) (hb : ∀ i, i < 64 → inB (bf i)) (w : World) : Calls Tryd.prog 18 #[(.agg (nums .u32 kf 64).toArray), (.agg (nums .u32 hf 8).toArray), (.agg (nums .u8 bf 64).toArray)] w fun e w' => e = .returned (.agg (nums .u32 (compF kf hf bf) 8).toArray) ∧ Below w.heap.size w w' := by
  have IH := Lib.hid hh; have IB := Lib.hid hb; have IK := Lib.hid hk
  clear hb hh hk
  obtain ⟨i0, hi, hz0, hz1, hz2⟩ := infoU_parts
  have HI := Lib.hid hi; have HZ0 := Lib.hid hz0; have HZ1 := Lib.hid hz1; have HZ2 := Lib.hid hz2
  clear hi hz0 hz1 hz2
  go_enter Tryd.func18, Tryd.ntmps18
  go_upto_region 1 with fail
  obtain ⟨W0, hW⟩ : ∃ W0, W0 = ((((w.alloc (.cells (nums .u32 kf 64).toArray 32)).alloc (.cells (nums .u32 hf 8).toArray 28)).alloc (.cells (nums .u8 bf 64).toArray 29)).alloc (.cells #[.int .u32 0, .int .u32 0, .int .u32 0, .int .u32 0, .int .u32 0, .int .u32 0, .int .u32 0, .int .u32 0] 28)) := ⟨_, rfl⟩
  have hB0 : Below w.heap.size w W0 := hW ▸ (Below.al (Below.al (Below.al (Below.al (Below.refl _ _)))))
  have HK : Hid (Own w.heap.size (nums .u32 kf 64) W0) := Lib.hid (hW ▸ (show Own w.heap.size (nums .u32 kf 64) (w.alloc (.cells (nums .u32 kf 64).toArray 32)) from Own.newAt (by simp)).alloc.alloc.alloc)
  have HH : Hid (Own (w.heap.size + 1) (nums .u32 hf 8) W0) := Lib.hid (hW ▸ (show Own (w.heap.size + 1) (nums .u32 hf 8) ((w.alloc (.cells (nums .u32 kf 64).toArray 32)).alloc (.cells (nums .u32 hf 8).toArray 28)) from Own.newAt (by simp)).alloc.alloc)
  have HBk : Hid (Own ((w.heap.size + 1) + 1) (nums .u8 bf 64) W0) := Lib.hid (hW ▸ (show Own ((w.heap.size + 1) + 1) (nums .u8 bf 64) (((w.alloc (.cells (nums .u32 kf 64).toArray 32)).alloc (.cells (nums .u32 hf 8).toArray 28)).alloc (.cells (nums .u8 bf 64).toArray 29)) from Own.newAt (by simp)).alloc)
  have HR : Hid (Own (((w.heap.size + 1) + 1) + 1) (nums .u32 (fun _ => 0) 8) W0) := Lib.hid (hW ▸ (show Own (((w.heap.size + 1) + 1) + 1) (nums .u32 (fun _ => 0) 8) ((((w.alloc (.cells (nums .u32 kf 64).toArray 32)).alloc (.cells (nums .u32 hf 8).toArray 28)).alloc (.cells (nums .u8 bf 64).toArray 29)).alloc (.cells #[.int .u32 0, .int .u32 0, .int .u32 0, .int .u32 0, .int .u32 0, .int .u32 0, .int .u32 0, .int .u32 0] 28)) from Own.newAt (by simp)))
  rw [← hW]
  clear hW
  obtain ⟨R, eR⟩ : ∃ X, X = (((w.heap.size + 1) + 1) + 1) := ⟨_, rfl⟩
  rw [← eR] at HR ⊢
  have Rw : w.heap.size ≤ R := by omega
  obtain ⟨B, eB⟩ : ∃ X, X = ((w.heap.size + 1) + 1) := ⟨_, rfl⟩
  rw [← eB] at HBk ⊢
  have Bw : w.heap.size ≤ B := by omega
  obtain ⟨H, eH⟩ : ∃ X, X = (w.heap.size + 1) := ⟨_, rfl⟩
  rw [← eH] at HH ⊢
  have Hw : w.heap.size ≤ H := by omega
  obtain ⟨Kb, eKb⟩ : ∃ X, X = w.heap.size := ⟨_, rfl⟩
  rw [← eKb] at HK ⊢
  have Kbw : w.heap.size ≤ Kb := by omega
  have nKbH : Kb ≠ H := by omega
  have nHKb : H ≠ Kb := by omega
  have nKbB : Kb ≠ B := by omega
  have nBKb : B ≠ Kb := by omega
  have nKbR : Kb ≠ R := by omega
  have nRKb : R ≠ Kb := by omega
  have nHB : H ≠ B := by omega
  have nBH : B ≠ H := by omega
  have nHR : H ≠ R := by omega
  have nRH : R ≠ H := by omega
  have nBR : B ≠ R := by omega
  have nRB : R ≠ B := by omega
  clear eKb eH eB eR
  have LT := Lib.hid (show Kb < W0.heap.size ∧ H < W0.heap.size ∧ B < W0.heap.size ∧ R < W0.heap.size from ⟨HK.out.lt, HH.out.lt, HBk.out.lt, HR.out.lt⟩)
  go_wp2_with (fail)
  go_loopw [7, 8] (fun v iv wr => ∃ (k : Nat) (p3 : Option Addr) (c3 : Nat), k ≤ 16 ∧ v = .slice p3 k c3 ∧ iv = .int .i64 k ∧ Hid (wr.ownsRow W0.heap.size 27 1 (.slice p3 k c3) k (nums .u32 (sch bf k) k)) ∧ Hid (Below W0.heap.size W0 wr)) (fun _ iv _ => (16 - (intOf iv).toNat))
  case atStart => exact ⟨0, none, 0, Nat.zero_le _, rfl, rfl, Lib.hid (World.ownsRow_nil _ _ _ _), Lib.hid (Below.refl _ _)⟩
  case round =>
    obtain ⟨k, p3, c3, hk, rfl, rfl, ROW, HB⟩ := hrel
    by_cases hlt : k < 16
    · have J0 := Lib.hid (IB.out (4 * k) (by omega)); have J1 := Lib.hid (IB.out (4 * k + 1) (by omega)); have J2 := Lib.hid (IB.out (4 * k + 2) (by omega)); have J3 := Lib.hid (IB.out (4 * k + 3) (by omega))
      have V0 := Lib.hid (nums_at .u8 bf (show 4 * k < 64 by omega)); have V1 := Lib.hid (nums_at .u8 bf (show 4 * k + 1 < 64 by omega)); have V2 := Lib.hid (nums_at .u8 bf (show 4 * k + 2 < 64 by omega)); have V3 := Lib.hid (nums_at .u8 bf (show 4 * k + 3 < 64 by omega))
      have E := Lib.hid (show 16777216 * bf (4 * k) + 65536 * bf (4 * k + 1) + 256 * bf (4 * k + 2) + bf (4 * k + 3) = be bf k from rfl)
      generalize bf (4 * k) = x0 at *
      generalize bf (4 * k + 1) = x1 at *
      generalize bf (4 * k + 2) = x2 at *
      generalize bf (4 * k + 3) = x3 at *
      have v0 := (conv_u8_ x0 J0.out).1; have v1 := (conv_u8_ x1 J1.out).1; have v2 := (conv_u8_ x2 J2.out).1; have v3 := (conv_u8_ x3 J3.out).1
      have q0 := (conv_u8_ x0 J0.out).2; have q1_ := (conv_u8_ x1 J1.out).2; have q2_ := (conv_u8_ x2 J2.out).2; have q3_ := (conv_u8_ x3 J3.out).2
      obtain ⟨z0, f0⟩ : ∃ z, x0 * 256 % 4294967296 = z := ⟨_, rfl⟩
      obtain ⟨y1, f1⟩ : ∃ z, (z0 + x1) % 4294967296 = z := ⟨_, rfl⟩
      obtain ⟨z1, f2⟩ : ∃ z, y1 * 256 % 4294967296 = z := ⟨_, rfl⟩
      obtain ⟨y2, f3⟩ : ∃ z, (z1 + x2) % 4294967296 = z := ⟨_, rfl⟩
      obtain ⟨z2, f4⟩ : ∃ z, y2 * 256 % 4294967296 = z := ⟨_, rfl⟩
      obtain ⟨y3, f5⟩ : ∃ z, (z2 + x3) % 4294967296 = z := ⟨_, rfl⟩
      have XS := Lib.hid (sch_grow bf k y3 (by
        rw [if_pos hlt, ← E.out]
        have h0 := J0.out; have h1 := J1.out; have h2 := J2.out; have h3 := J3.out
        unfold inB at h0 h1 h2 h3
        omega))
      have w0 : IntKind.u32.wrap (x0 * 256) = z0 := (IntKind.wrap_u32' _).trans f0
      have w1 : IntKind.u32.wrap (z0 + x1) = y1 := (IntKind.wrap_u32' _).trans f1
      have w2 : IntKind.u32.wrap (y1 * 256) = z1 := (IntKind.wrap_u32' _).trans f2
      have w3 : IntKind.u32.wrap (z1 + x2) = y2 := (IntKind.wrap_u32' _).trans f3
      have w4 : IntKind.u32.wrap (y2 * 256) = z2 := (IntKind.wrap_u32' _).trans f4
      have w5 : IntKind.u32.wrap (z2 + x3) = y3 := (IntKind.wrap_u32' _).trans f5
      have hki : (k : Int) < 16 := by omega
      have k0 : (0 : Int) ≤ (k : Int) := by omega
      have wk : IntKind.i64.wrap ((k : Int) + 1) = (k : Int) + 1 := IntWalk.i64_in _ (by omega)
      obtain ⟨q, eq⟩ : ∃ q : Nat, q = 4 * k := ⟨_, rfl⟩
      rw [← eq] at V0 V1 V2 V3
      obtain ⟨r1, er1⟩ : ∃ r : Nat, q + 1 = r := ⟨_, rfl⟩
      obtain ⟨r2, er2⟩ : ∃ r : Nat, q + 2 = r := ⟨_, rfl⟩
      obtain ⟨r3, er3⟩ : ∃ r : Nat, q + 3 = r := ⟨_, rfl⟩
      rw [er1] at V1; rw [er2] at V2; rw [er3] at V3
      have m0 : 4 * (k : Int) = (q : Int) := by omega
      have m1 : (q : Int) + 1 = (r1 : Int) := by omega
      have m2 : (q : Int) + 2 = (r2 : Int) := by omega
      have m3 : (q : Int) + 3 = (r3 : Int) := by omega
      have wq : IntKind.i64.wrap (q : Int) = (q : Int) := IntWalk.i64_in _ (by omega)
      have wq1 : IntKind.i64.wrap (r1 : Int) = (r1 : Int) := IntWalk.i64_in _ (by omega)
      have wq2 : IntKind.i64.wrap (r2 : Int) = (r2 : Int) := IntWalk.i64_in _ (by omega)
      have wq3 : IntKind.i64.wrap (r3 : Int) = (r3 : Int) := IntWalk.i64_in _ (by omega)
      have c0 : (q : Int) < 64 := by omega
      have c1 : (r1 : Int) < 64 := by omega
      have c2 : (r2 : Int) < 64 := by omega
      have c3_ : (r3 : Int) < 64 := by omega
      have d0 : (0 : Int) ≤ (q : Int) := by omega
      have d1 : (0 : Int) ≤ (r1 : Int) := by omega
      have d2 : (0 : Int) ≤ (r2 : Int) := by omega
      have d3 : (0 : Int) ≤ (r3 : Int) := by omega
      have HLT := Lib.hid hlt
      clear eq er1 er2 er3 hk hlt E
      have K5 : k + 1 ≤ 65536 := by have := HLT.out; omega
      have BH := HB.out
      go_upto_region 5 with fail
      refine wp_region_fun 33 (by kernel_rfl) (by kernel_rfl) rfl (fun s b => ⟨#[(.agg (nums .u32 kf 64).toArray), (.agg (nums .u32 hf 8).toArray), (.agg (nums .u8 bf 64).toArray), .pointer (some ⟨Kb, 0, none⟩), .pointer (some ⟨H, 0, none⟩), .pointer (some ⟨B, 0, none⟩), .pointer (some ⟨R, 0, none⟩), s 7, .int .i64 k, undef, undef, undef, undef, undef, undef, undef, undef, undef, .int .i64 k, .bool true, u20, u21, s 22, s 23, s 24, s 25, s 26, s 27, s 28, s 29, s 30, s 31, s 32, s 33, s 34, s 35, s 36, s 37, s 38, s 39, s 40, s 41, s 42, s 43, s 44, s 45, s 46, s 47, s 48, s 49, s 50, s 51, s 52, s 53, undef, undef, undef, undef, undef, undef, undef, undef, undef, undef, undef, undef, undef, undef, undef, undef, undef, undef, undef, undef, undef, undef, undef, undef, undef, undef, undef, undef, undef, undef, undef, undef, undef, undef, undef, undef, undef, undef, undef, undef, undef, undef, undef, undef, undef, undef, undef, undef, undef, undef, undef, undef, undef, undef, undef, undef, undef, undef, undef, undef, undef, undef, undef, undef, undef, undef, undef, undef, undef, undef, undef, undef, undef, undef, undef, undef, undef, undef, undef, undef, undef, undef, undef, undef, undef, undef, undef, undef, undef, undef, undef, undef, undef, undef, undef, undef, undef, undef, undef, undef, undef, undef, undef, undef, undef, undef, undef, undef, undef, undef, undef, undef, undef, undef, undef, undef, undef, undef, undef, undef, undef, undef, undef, undef, undef, undef, undef, undef, undef, undef, undef, undef, undef, undef, undef, undef, undef, undef, undef, undef, undef, undef, undef, undef, undef, undef, undef, undef, undef, undef, undef, undef, undef, undef, undef, undef, undef, undef, undef, undef, undef, undef, undef, undef, undef], []⟩) (fun d s b w => (Below W0.heap.size W0 w) ∧ (d 0 = true → s 22 = (.slice p3 k c3)) ∧ (d 1 = true → s 23 = .int .i64 k) ∧ (d 2 = true → s 24 = .int .i64 q) ∧ (d 3 = true → s 25 = .pointer (some ⟨B, q, none⟩)) ∧ (d 4 = true → s 26 = .int .u8 x0) ∧ (d 5 = true → s 27 = .int .u32 x0) ∧ (d 6 = true → s 28 = .int .u32 z0) ∧ (d 7 = true → s 29 = .int .i64 k) ∧ (d 8 = true → s 30 = .int .i64 q) ∧ (d 9 = true → s 31 = .int .i64 r1) ∧ (d 10 = true → s 32 = .pointer (some ⟨B, r1, none⟩)) ∧ (d 11 = true → s 33 = .int .u8 x1) ∧ (d 12 = true → s 34 = .int .u32 x1) ∧ (d 13 = true → s 35 = .int .u32 y1) ∧ (d 14 = true → s 36 = .int .u32 z1) ∧ (d 15 = true → s 37 = .int .i64 k) ∧ (d 16 = true → s 38 = .int .i64 q) ∧ (d 17 = true → s 39 = .int .i64 r2) ∧ (d 18 = true → s 40 = .pointer (some ⟨B, r2, none⟩)) ∧ (d 19 = true → s 41 = .int .u8 x2) ∧ (d 20 = true → s 42 = .int .u32 x2) ∧ (d 21 = true → s 43 = .int .u32 y2) ∧ (d 22 = true → s 44 = .int .u32 z2) ∧ (d 23 = true → s 45 = .int .i64 k) ∧ (d 24 = true → s 46 = .int .i64 q) ∧ (d 25 = true → s 47 = .int .i64 r3) ∧ (d 26 = true → s 48 = .pointer (some ⟨B, r3, none⟩)) ∧ (d 27 = true → s 49 = .int .u8 x3) ∧ (d 28 = true → s 50 = .int .u32 x3) ∧ (d 29 = true → s 51 = .int .u32 y3) ∧ (d 30 = true → s 52 = .slice (some ⟨(b 30), 0, none⟩) 1 1 ∧ W0.heap.size ≤ b 30) ∧ (d 30 = true → d 31 = false → Own (b 30) [.int .u32 y3] w) ∧ (d 31 = false → w.ownsRow W0.heap.size 27 1 (.slice p3 k c3) k (nums .u32 (sch bf k) k)) ∧ (d 31 = true → w.ownsRow W0.heap.size 27 1 (s 53) (k + 1) ((nums .u32 (sch bf k) k) ++ [.int .u32 y3])) ∧ (d 32 = true → s 7 = s 53) ∧ (d 32 = false → s 7 = (.slice p3 k c3)) ∧ (d 32 = true → d 0 = true) ∧ (d 32 = true → d 31 = true)) rfl ?h0w6 (?stw6 : StepsF _ _ _ _ 33 _ _ [0, 1, 2, 3, 4, 5, 6, 7, 8, 9, 10, 11, 12, 13, 14, 15, 16, 17, 18, 19, 20, 21, 22, 23, 24, 25, 26, 27, 28, 29, 30, 31, 32]) ?dnw6
      case h0w6 => exact ⟨Below.drew BH, (fun h => nomatch h), (fun h => nomatch h), (fun h => nomatch h), (fun h => nomatch h), (fun h => nomatch h), (fun h => nomatch h), (fun h => nomatch h), (fun h => nomatch h), (fun h => nomatch h), (fun h => nomatch h), (fun h => nomatch h), (fun h => nomatch h), (fun h => nomatch h), (fun h => nomatch h), (fun h => nomatch h), (fun h => nomatch h), (fun h => nomatch h), (fun h => nomatch h), (fun h => nomatch h), (fun h => nomatch h), (fun h => nomatch h), (fun h => nomatch h), (fun h => nomatch h), (fun h => nomatch h), (fun h => nomatch h), (fun h => nomatch h), (fun h => nomatch h), (fun h => nomatch h), (fun h => nomatch h), (fun h => nomatch h), (fun h => nomatch h), (fun h => nomatch h), (fun _ => row_later ROW.out (Below.refl _ _).drew), (fun h => nomatch h), (fun h => nomatch h), (fun _ => rfl), (fun h => nomatch h), (fun h => nomatch h)⟩
      case stw6 =>
        refine StepsF.cons (o := _) rfl (ws := []) (by kernel_rfl) (by decide) (fun d s b w hF hd hw K_ hK => ?_) ?_
        · have hB : Below W0.heap.size W0 w := (p0_ hF.out)
          have e32 : s 7 = (.slice p3 k c3) := (p36_ hF.out) (by cases e : d 32 with | false => rfl | true => exact absurd ((p37_ hF.out) e) (by simp [hd]))
          dsimp only
          go_simp
          exact hK.out (ups (ups s 7 ((.slice p3 k c3))) 22 ((.slice p3 k c3))) b _ ⟨hB, (fun _ => rfl), (p2_ hF.out), (p3_ hF.out), (p4_ hF.out), (p5_ hF.out), (p6_ hF.out), (p7_ hF.out), (p8_ hF.out), (p9_ hF.out), (p10_ hF.out), (p11_ hF.out), (p12_ hF.out), (p13_ hF.out), (p14_ hF.out), (p15_ hF.out), (p16_ hF.out), (p17_ hF.out), (p18_ hF.out), (p19_ hF.out), (p20_ hF.out), (p21_ hF.out), (p22_ hF.out), (p23_ hF.out), (p24_ hF.out), (p25_ hF.out), (p26_ hF.out), (p27_ hF.out), (p28_ hF.out), (p29_ hF.out), (p30_ hF.out), (p31_ hF.out), (p32_ hF.out), (p33_ hF.out), (p34_ hF.out), (fun h => absurd ((p37_ hF.out) h) (by simp [hd])), (fun _ => rfl), (fun _ => rfl), (q38_ hF.out)⟩
        refine StepsF.cons (o := _) rfl (ws := []) (by kernel_rfl) (by decide) (fun d s b w hF hd hw K_ hK => ?_) ?_
        · have hB : Below W0.heap.size W0 w := (p0_ hF.out)
          dsimp only
          go_simp
          exact hK.out (ups s 23 (.int .i64 k)) b _ ⟨hB, (p1_ hF.out), (fun _ => rfl), (p3_ hF.out), (p4_ hF.out), (p5_ hF.out), (p6_ hF.out), (p7_ hF.out), (p8_ hF.out), (p9_ hF.out), (p10_ hF.out), (p11_ hF.out), (p12_ hF.out), (p13_ hF.out), (p14_ hF.out), (p15_ hF.out), (p16_ hF.out), (p17_ hF.out), (p18_ hF.out), (p19_ hF.out), (p20_ hF.out), (p21_ hF.out), (p22_ hF.out), (p23_ hF.out), (p24_ hF.out), (p25_ hF.out), (p26_ hF.out), (p27_ hF.out), (p28_ hF.out), (p29_ hF.out), (p30_ hF.out), (p31_ hF.out), (p32_ hF.out), (p33_ hF.out), (p34_ hF.out), (p35_ hF.out), (p36_ hF.out), (p37_ hF.out), (q38_ hF.out)⟩
        refine StepsF.cons (o := _) rfl (ws := [1]) (by kernel_rfl) (by decide) (fun d s b w hF hd hw K_ hK => ?_) ?_
        · have hB : Below W0.heap.size W0 w := (p0_ hF.out)
          have e1 : s 23 = .int .i64 k := (p2_ hF.out) (hw 1 (by decide))
          dsimp only
          go_simp
          exact hK.out (ups (ups s 23 (.int .i64 k)) 24 (.int .i64 q)) b _ ⟨hB, (p1_ hF.out), (fun _ => rfl), (fun _ => rfl), (p4_ hF.out), (p5_ hF.out), (p6_ hF.out), (p7_ hF.out), (p8_ hF.out), (p9_ hF.out), (p10_ hF.out), (p11_ hF.out), (p12_ hF.out), (p13_ hF.out), (p14_ hF.out), (p15_ hF.out), (p16_ hF.out), (p17_ hF.out), (p18_ hF.out), (p19_ hF.out), (p20_ hF.out), (p21_ hF.out), (p22_ hF.out), (p23_ hF.out), (p24_ hF.out), (p25_ hF.out), (p26_ hF.out), (p27_ hF.out), (p28_ hF.out), (p29_ hF.out), (p30_ hF.out), (p31_ hF.out), (p32_ hF.out), (p33_ hF.out), (p34_ hF.out), (p35_ hF.out), (p36_ hF.out), (p37_ hF.out), (q38_ hF.out)⟩
        refine StepsF.cons (o := _) rfl (ws := [2]) (by kernel_rfl) (by decide) (fun d s b w hF hd hw K_ hK => ?_) ?_
        · have hB : Below W0.heap.size W0 w := (p0_ hF.out)
          have e2 : s 24 = .int .i64 q := (p3_ hF.out) (hw 2 (by decide))
          dsimp only
          go_simp
          exact hK.out (ups (ups s 24 (.int .i64 q)) 25 (.pointer (some ⟨B, q, none⟩))) b _ ⟨hB, (p1_ hF.out), (p2_ hF.out), (fun _ => rfl), (fun _ => rfl), (p5_ hF.out), (p6_ hF.out), (p7_ hF.out), (p8_ hF.out), (p9_ hF.out), (p10_ hF.out), (p11_ hF.out), (p12_ hF.out), (p13_ hF.out), (p14_ hF.out), (p15_ hF.out), (p16_ hF.out), (p17_ hF.out), (p18_ hF.out), (p19_ hF.out), (p20_ hF.out), (p21_ hF.out), (p22_ hF.out), (p23_ hF.out), (p24_ hF.out), (p25_ hF.out), (p26_ hF.out), (p27_ hF.out), (p28_ hF.out), (p29_ hF.out), (p30_ hF.out), (p31_ hF.out), (p32_ hF.out), (p33_ hF.out), (p34_ hF.out), (p35_ hF.out), (p36_ hF.out), (p37_ hF.out), (q38_ hF.out)⟩
        refine StepsF.cons (o := _) rfl (ws := [3]) (by kernel_rfl) (by decide) (fun d s b w hF hd hw K_ hK => ?_) ?_
        · have hB : Below W0.heap.size W0 w := (p0_ hF.out)
          have e3 : s 25 = .pointer (some ⟨B, q, none⟩) := (p4_ hF.out) (hw 3 (by decide))
          dsimp only
          have oS := HBk.out.later hB
          have Sx := oS.at q _ V0.out
          clear oS
          go_simp
          exact hK.out (ups (ups s 25 (.pointer (some ⟨B, q, none⟩))) 26 (.int .u8 x0)) b _ ⟨hB, (p1_ hF.out), (p2_ hF.out), (p3_ hF.out), (fun _ => rfl), (fun _ => rfl), (p6_ hF.out), (p7_ hF.out), (p8_ hF.out), (p9_ hF.out), (p10_ hF.out), (p11_ hF.out), (p12_ hF.out), (p13_ hF.out), (p14_ hF.out), (p15_ hF.out), (p16_ hF.out), (p17_ hF.out), (p18_ hF.out), (p19_ hF.out), (p20_ hF.out), (p21_ hF.out), (p22_ hF.out), (p23_ hF.out), (p24_ hF.out), (p25_ hF.out), (p26_ hF.out), (p27_ hF.out), (p28_ hF.out), (p29_ hF.out), (p30_ hF.out), (p31_ hF.out), (p32_ hF.out), (p33_ hF.out), (p34_ hF.out), (p35_ hF.out), (p36_ hF.out), (p37_ hF.out), (q38_ hF.out)⟩
        refine StepsF.cons (o := _) rfl (ws := [4]) (by kernel_rfl) (by decide) (fun d s b w hF hd hw K_ hK => ?_) ?_
        · have hB : Below W0.heap.size W0 w := (p0_ hF.out)
          have e4 : s 26 = .int .u8 x0 := (p5_ hF.out) (hw 4 (by decide))
          dsimp only
          go_simp
          exact hK.out (ups (ups s 26 (.int .u8 x0)) 27 (.int .u32 x0)) b _ ⟨hB, (p1_ hF.out), (p2_ hF.out), (p3_ hF.out), (p4_ hF.out), (fun _ => rfl), (fun _ => rfl), (p7_ hF.out), (p8_ hF.out), (p9_ hF.out), (p10_ hF.out), (p11_ hF.out), (p12_ hF.out), (p13_ hF.out), (p14_ hF.out), (p15_ hF.out), (p16_ hF.out), (p17_ hF.out), (p18_ hF.out), (p19_ hF.out), (p20_ hF.out), (p21_ hF.out), (p22_ hF.out), (p23_ hF.out), (p24_ hF.out), (p25_ hF.out), (p26_ hF.out), (p27_ hF.out), (p28_ hF.out), (p29_ hF.out), (p30_ hF.out), (p31_ hF.out), (p32_ hF.out), (p33_ hF.out), (p34_ hF.out), (p35_ hF.out), (p36_ hF.out), (p37_ hF.out), (q38_ hF.out)⟩
        refine StepsF.cons (o := _) rfl (ws := [5]) (by kernel_rfl) (by decide) (fun d s b w hF hd hw K_ hK => ?_) ?_
        · have hB : Below W0.heap.size W0 w := (p0_ hF.out)
          have e5 : s 27 = .int .u32 x0 := (p6_ hF.out) (hw 5 (by decide))
          dsimp only
          go_simp
          exact hK.out (ups (ups s 27 (.int .u32 x0)) 28 (.int .u32 z0)) b _ ⟨hB, (p1_ hF.out), (p2_ hF.out), (p3_ hF.out), (p4_ hF.out), (p5_ hF.out), (fun _ => rfl), (fun _ => rfl), (p8_ hF.out), (p9_ hF.out), (p10_ hF.out), (p11_ hF.out), (p12_ hF.out), (p13_ hF.out), (p14_ hF.out), (p15_ hF.out), (p16_ hF.out), (p17_ hF.out), (p18_ hF.out), (p19_ hF.out), (p20_ hF.out), (p21_ hF.out), (p22_ hF.out), (p23_ hF.out), (p24_ hF.out), (p25_ hF.out), (p26_ hF.out), (p27_ hF.out), (p28_ hF.out), (p29_ hF.out), (p30_ hF.out), (p31_ hF.out), (p32_ hF.out), (p33_ hF.out), (p34_ hF.out), (p35_ hF.out), (p36_ hF.out), (p37_ hF.out), (q38_ hF.out)⟩
        refine StepsF.cons (o := _) rfl (ws := []) (by kernel_rfl) (by decide) (fun d s b w hF hd hw K_ hK => ?_) ?_
        · have hB : Below W0.heap.size W0 w := (p0_ hF.out)
          dsimp only
          go_simp
          exact hK.out (ups s 29 (.int .i64 k)) b _ ⟨hB, (p1_ hF.out), (p2_ hF.out), (p3_ hF.out), (p4_ hF.out), (p5_ hF.out), (p6_ hF.out), (p7_ hF.out), (fun _ => rfl), (p9_ hF.out), (p10_ hF.out), (p11_ hF.out), (p12_ hF.out), (p13_ hF.out), (p14_ hF.out), (p15_ hF.out), (p16_ hF.out), (p17_ hF.out), (p18_ hF.out), (p19_ hF.out), (p20_ hF.out), (p21_ hF.out), (p22_ hF.out), (p23_ hF.out), (p24_ hF.out), (p25_ hF.out), (p26_ hF.out), (p27_ hF.out), (p28_ hF.out), (p29_ hF.out), (p30_ hF.out), (p31_ hF.out), (p32_ hF.out), (p33_ hF.out), (p34_ hF.out), (p35_ hF.out), (p36_ hF.out), (p37_ hF.out), (q38_ hF.out)⟩
        refine StepsF.cons (o := _) rfl (ws := [7]) (by kernel_rfl) (by decide) (fun d s b w hF hd hw K_ hK => ?_) ?_
        · have hB : Below W0.heap.size W0 w := (p0_ hF.out)
          have e7 : s 29 = .int .i64 k := (p8_ hF.out) (hw 7 (by decide))
          dsimp only
          go_simp
          exact hK.out (ups (ups s 29 (.int .i64 k)) 30 (.int .i64 q)) b _ ⟨hB, (p1_ hF.out), (p2_ hF.out), (p3_ hF.out), (p4_ hF.out), (p5_ hF.out), (p6_ hF.out), (p7_ hF.out), (fun _ => rfl), (fun _ => rfl), (p10_ hF.out), (p11_ hF.out), (p12_ hF.out), (p13_ hF.out), (p14_ hF.out), (p15_ hF.out), (p16_ hF.out), (p17_ hF.out), (p18_ hF.out), (p19_ hF.out), (p20_ hF.out), (p21_ hF.out), (p22_ hF.out), (p23_ hF.out), (p24_ hF.out), (p25_ hF.out), (p26_ hF.out), (p27_ hF.out), (p28_ hF.out), (p29_ hF.out), (p30_ hF.out), (p31_ hF.out), (p32_ hF.out), (p33_ hF.out), (p34_ hF.out), (p35_ hF.out), (p36_ hF.out), (p37_ hF.out), (q38_ hF.out)⟩
        refine StepsF.cons (o := _) rfl (ws := [8]) (by kernel_rfl) (by decide) (fun d s b w hF hd hw K_ hK => ?_) ?_
        · have hB : Below W0.heap.size W0 w := (p0_ hF.out)
          have e8 : s 30 = .int .i64 q := (p9_ hF.out) (hw 8 (by decide))
          dsimp only
          go_simp
          exact hK.out (ups (ups s 30 (.int .i64 q)) 31 (.int .i64 r1)) b _ ⟨hB, (p1_ hF.out), (p2_ hF.out), (p3_ hF.out), (p4_ hF.out), (p5_ hF.out), (p6_ hF.out), (p7_ hF.out), (p8_ hF.out), (fun _ => rfl), (fun _ => rfl), (p11_ hF.out), (p12_ hF.out), (p13_ hF.out), (p14_ hF.out), (p15_ hF.out), (p16_ hF.out), (p17_ hF.out), (p18_ hF.out), (p19_ hF.out), (p20_ hF.out), (p21_ hF.out), (p22_ hF.out), (p23_ hF.out), (p24_ hF.out), (p25_ hF.out), (p26_ hF.out), (p27_ hF.out), (p28_ hF.out), (p29_ hF.out), (p30_ hF.out), (p31_ hF.out), (p32_ hF.out), (p33_ hF.out), (p34_ hF.out), (p35_ hF.out), (p36_ hF.out), (p37_ hF.out), (q38_ hF.out)⟩
        refine StepsF.cons (o := _) rfl (ws := [9]) (by kernel_rfl) (by decide) (fun d s b w hF hd hw K_ hK => ?_) ?_
        · have hB : Below W0.heap.size W0 w := (p0_ hF.out)
          have e9 : s 31 = .int .i64 r1 := (p10_ hF.out) (hw 9 (by decide))
          dsimp only
          go_simp
          exact hK.out (ups (ups s 31 (.int .i64 r1)) 32 (.pointer (some ⟨B, r1, none⟩))) b _ ⟨hB, (p1_ hF.out), (p2_ hF.out), (p3_ hF.out), (p4_ hF.out), (p5_ hF.out), (p6_ hF.out), (p7_ hF.out), (p8_ hF.out), (p9_ hF.out), (fun _ => rfl), (fun _ => rfl), (p12_ hF.out), (p13_ hF.out), (p14_ hF.out), (p15_ hF.out), (p16_ hF.out), (p17_ hF.out), (p18_ hF.out), (p19_ hF.out), (p20_ hF.out), (p21_ hF.out), (p22_ hF.out), (p23_ hF.out), (p24_ hF.out), (p25_ hF.out), (p26_ hF.out), (p27_ hF.out), (p28_ hF.out), (p29_ hF.out), (p30_ hF.out), (p31_ hF.out), (p32_ hF.out), (p33_ hF.out), (p34_ hF.out), (p35_ hF.out), (p36_ hF.out), (p37_ hF.out), (q38_ hF.out)⟩
        refine StepsF.cons (o := _) rfl (ws := [10]) (by kernel_rfl) (by decide) (fun d s b w hF hd hw K_ hK => ?_) ?_
        · have hB : Below W0.heap.size W0 w := (p0_ hF.out)
          have e10 : s 32 = .pointer (some ⟨B, r1, none⟩) := (p11_ hF.out) (hw 10 (by decide))
          dsimp only
          have oS := HBk.out.later hB
          have Sx := oS.at r1 _ V1.out
          clear oS
          go_simp
          exact hK.out (ups (ups s 32 (.pointer (some ⟨B, r1, none⟩))) 33 (.int .u8 x1)) b _ ⟨hB, (p1_ hF.out), (p2_ hF.out), (p3_ hF.out), (p4_ hF.out), (p5_ hF.out), (p6_ hF.out), (p7_ hF.out), (p8_ hF.out), (p9_ hF.out), (p10_ hF.out), (fun _ => rfl), (fun _ => rfl), (p13_ hF.out), (p14_ hF.out), (p15_ hF.out), (p16_ hF.out), (p17_ hF.out), (p18_ hF.out), (p19_ hF.out), (p20_ hF.out), (p21_ hF.out), (p22_ hF.out), (p23_ hF.out), (p24_ hF.out), (p25_ hF.out), (p26_ hF.out), (p27_ hF.out), (p28_ hF.out), (p29_ hF.out), (p30_ hF.out), (p31_ hF.out), (p32_ hF.out), (p33_ hF.out), (p34_ hF.out), (p35_ hF.out), (p36_ hF.out), (p37_ hF.out), (q38_ hF.out)⟩
        refine StepsF.cons (o := _) rfl (ws := [11]) (by kernel_rfl) (by decide) (fun d s b w hF hd hw K_ hK => ?_) ?_
        · have hB : Below W0.heap.size W0 w := (p0_ hF.out)
          have e11 : s 33 = .int .u8 x1 := (p12_ hF.out) (hw 11 (by decide))
          dsimp only
          go_simp
          exact hK.out (ups (ups s 33 (.int .u8 x1)) 34 (.int .u32 x1)) b _ ⟨hB, (p1_ hF.out), (p2_ hF.out), (p3_ hF.out), (p4_ hF.out), (p5_ hF.out), (p6_ hF.out), (p7_ hF.out), (p8_ hF.out), (p9_ hF.out), (p10_ hF.out), (p11_ hF.out), (fun _ => rfl), (fun _ => rfl), (p14_ hF.out), (p15_ hF.out), (p16_ hF.out), (p17_ hF.out), (p18_ hF.out), (p19_ hF.out), (p20_ hF.out), (p21_ hF.out), (p22_ hF.out), (p23_ hF.out), (p24_ hF.out), (p25_ hF.out), (p26_ hF.out), (p27_ hF.out), (p28_ hF.out), (p29_ hF.out), (p30_ hF.out), (p31_ hF.out), (p32_ hF.out), (p33_ hF.out), (p34_ hF.out), (p35_ hF.out), (p36_ hF.out), (p37_ hF.out), (q38_ hF.out)⟩
        refine StepsF.cons (o := _) rfl (ws := [6, 12]) (by kernel_rfl) (by decide) (fun d s b w hF hd hw K_ hK => ?_) ?_
        · have hB : Below W0.heap.size W0 w := (p0_ hF.out)
          have e6 : s 28 = .int .u32 z0 := (p7_ hF.out) (hw 6 (by decide))
          have e12 : s 34 = .int .u32 x1 := (p13_ hF.out) (hw 12 (by decide))
          dsimp only
          go_simp
          exact hK.out (ups (ups (ups s 28 (.int .u32 z0)) 34 (.int .u32 x1)) 35 (.int .u32 y1)) b _ ⟨hB, (p1_ hF.out), (p2_ hF.out), (p3_ hF.out), (p4_ hF.out), (p5_ hF.out), (p6_ hF.out), (fun _ => rfl), (p8_ hF.out), (p9_ hF.out), (p10_ hF.out), (p11_ hF.out), (p12_ hF.out), (fun _ => rfl), (fun _ => rfl), (p15_ hF.out), (p16_ hF.out), (p17_ hF.out), (p18_ hF.out), (p19_ hF.out), (p20_ hF.out), (p21_ hF.out), (p22_ hF.out), (p23_ hF.out), (p24_ hF.out), (p25_ hF.out), (p26_ hF.out), (p27_ hF.out), (p28_ hF.out), (p29_ hF.out), (p30_ hF.out), (p31_ hF.out), (p32_ hF.out), (p33_ hF.out), (p34_ hF.out), (p35_ hF.out), (p36_ hF.out), (p37_ hF.out), (q38_ hF.out)⟩
        refine StepsF.cons (o := _) rfl (ws := [13]) (by kernel_rfl) (by decide) (fun d s b w hF hd hw K_ hK => ?_) ?_
        · have hB : Below W0.heap.size W0 w := (p0_ hF.out)
          have e13 : s 35 = .int .u32 y1 := (p14_ hF.out) (hw 13 (by decide))
          dsimp only
          go_simp
          exact hK.out (ups (ups s 35 (.int .u32 y1)) 36 (.int .u32 z1)) b _ ⟨hB, (p1_ hF.out), (p2_ hF.out), (p3_ hF.out), (p4_ hF.out), (p5_ hF.out), (p6_ hF.out), (p7_ hF.out), (p8_ hF.out), (p9_ hF.out), (p10_ hF.out), (p11_ hF.out), (p12_ hF.out), (p13_ hF.out), (fun _ => rfl), (fun _ => rfl), (p16_ hF.out), (p17_ hF.out), (p18_ hF.out), (p19_ hF.out), (p20_ hF.out), (p21_ hF.out), (p22_ hF.out), (p23_ hF.out), (p24_ hF.out), (p25_ hF.out), (p26_ hF.out), (p27_ hF.out), (p28_ hF.out), (p29_ hF.out), (p30_ hF.out), (p31_ hF.out), (p32_ hF.out), (p33_ hF.out), (p34_ hF.out), (p35_ hF.out), (p36_ hF.out), (p37_ hF.out), (q38_ hF.out)⟩
        refine StepsF.cons (o := _) rfl (ws := []) (by kernel_rfl) (by decide) (fun d s b w hF hd hw K_ hK => ?_) ?_
        · have hB : Below W0.heap.size W0 w := (p0_ hF.out)
          dsimp only
          go_simp
          exact hK.out (ups s 37 (.int .i64 k)) b _ ⟨hB, (p1_ hF.out), (p2_ hF.out), (p3_ hF.out), (p4_ hF.out), (p5_ hF.out), (p6_ hF.out), (p7_ hF.out), (p8_ hF.out), (p9_ hF.out), (p10_ hF.out), (p11_ hF.out), (p12_ hF.out), (p13_ hF.out), (p14_ hF.out), (p15_ hF.out), (fun _ => rfl), (p17_ hF.out), (p18_ hF.out), (p19_ hF.out), (p20_ hF.out), (p21_ hF.out), (p22_ hF.out), (p23_ hF.out), (p24_ hF.out), (p25_ hF.out), (p26_ hF.out), (p27_ hF.out), (p28_ hF.out), (p29_ hF.out), (p30_ hF.out), (p31_ hF.out), (p32_ hF.out), (p33_ hF.out), (p34_ hF.out), (p35_ hF.out), (p36_ hF.out), (p37_ hF.out), (q38_ hF.out)⟩
        refine StepsF.cons (o := _) rfl (ws := [15]) (by kernel_rfl) (by decide) (fun d s b w hF hd hw K_ hK => ?_) ?_
        · have hB : Below W0.heap.size W0 w := (p0_ hF.out)
          have e15 : s 37 = .int .i64 k := (p16_ hF.out) (hw 15 (by decide))
          dsimp only
          go_simp
          exact hK.out (ups (ups s 37 (.int .i64 k)) 38 (.int .i64 q)) b _ ⟨hB, (p1_ hF.out), (p2_ hF.out), (p3_ hF.out), (p4_ hF.out), (p5_ hF.out), (p6_ hF.out), (p7_ hF.out), (p8_ hF.out), (p9_ hF.out), (p10_ hF.out), (p11_ hF.out), (p12_ hF.out), (p13_ hF.out), (p14_ hF.out), (p15_ hF.out), (fun _ => rfl), (fun _ => rfl), (p18_ hF.out), (p19_ hF.out), (p20_ hF.out), (p21_ hF.out), (p22_ hF.out), (p23_ hF.out), (p24_ hF.out), (p25_ hF.out), (p26_ hF.out), (p27_ hF.out), (p28_ hF.out), (p29_ hF.out), (p30_ hF.out), (p31_ hF.out), (p32_ hF.out), (p33_ hF.out), (p34_ hF.out), (p35_ hF.out), (p36_ hF.out), (p37_ hF.out), (q38_ hF.out)⟩
        refine StepsF.cons (o := _) rfl (ws := [16]) (by kernel_rfl) (by decide) (fun d s b w hF hd hw K_ hK => ?_) ?_
        · have hB : Below W0.heap.size W0 w := (p0_ hF.out)
          have e16 : s 38 = .int .i64 q := (p17_ hF.out) (hw 16 (by decide))
          dsimp only
          go_simp
          exact hK.out (ups (ups s 38 (.int .i64 q)) 39 (.int .i64 r2)) b _ ⟨hB, (p1_ hF.out), (p2_ hF.out), (p3_ hF.out), (p4_ hF.out), (p5_ hF.out), (p6_ hF.out), (p7_ hF.out), (p8_ hF.out), (p9_ hF.out), (p10_ hF.out), (p11_ hF.out), (p12_ hF.out), (p13_ hF.out), (p14_ hF.out), (p15_ hF.out), (p16_ hF.out), (fun _ => rfl), (fun _ => rfl), (p19_ hF.out), (p20_ hF.out), (p21_ hF.out), (p22_ hF.out), (p23_ hF.out), (p24_ hF.out), (p25_ hF.out), (p26_ hF.out), (p27_ hF.out), (p28_ hF.out), (p29_ hF.out), (p30_ hF.out), (p31_ hF.out), (p32_ hF.out), (p33_ hF.out), (p34_ hF.out), (p35_ hF.out), (p36_ hF.out), (p37_ hF.out), (q38_ hF.out)⟩
        refine StepsF.cons (o := _) rfl (ws := [17]) (by kernel_rfl) (by decide) (fun d s b w hF hd hw K_ hK => ?_) ?_
        · have hB : Below W0.heap.size W0 w := (p0_ hF.out)
          have e17 : s 39 = .int .i64 r2 := (p18_ hF.out) (hw 17 (by decide))
          dsimp only
          go_simp
          exact hK.out (ups (ups s 39 (.int .i64 r2)) 40 (.pointer (some ⟨B, r2, none⟩))) b _ ⟨hB, (p1_ hF.out), (p2_ hF.out), (p3_ hF.out), (p4_ hF.out), (p5_ hF.out), (p6_ hF.out), (p7_ hF.out), (p8_ hF.out), (p9_ hF.out), (p10_ hF.out), (p11_ hF.out), (p12_ hF.out), (p13_ hF.out), (p14_ hF.out), (p15_ hF.out), (p16_ hF.out), (p17_ hF.out), (fun _ => rfl), (fun _ => rfl), (p20_ hF.out), (p21_ hF.out), (p22_ hF.out), (p23_ hF.out), (p24_ hF.out), (p25_ hF.out), (p26_ hF.out), (p27_ hF.out), (p28_ hF.out), (p29_ hF.out), (p30_ hF.out), (p31_ hF.out), (p32_ hF.out), (p33_ hF.out), (p34_ hF.out), (p35_ hF.out), (p36_ hF.out), (p37_ hF.out), (q38_ hF.out)⟩
        refine StepsF.cons (o := _) rfl (ws := [18]) (by kernel_rfl) (by decide) (fun d s b w hF hd hw K_ hK => ?_) ?_
        · have hB : Below W0.heap.size W0 w := (p0_ hF.out)
          have e18 : s 40 = .pointer (some ⟨B, r2, none⟩) := (p19_ hF.out) (hw 18 (by decide))
          dsimp only
          have oS := HBk.out.later hB
          have Sx := oS.at r2 _ V2.out
          clear oS
          go_simp
          exact hK.out (ups (ups s 40 (.pointer (some ⟨B, r2, none⟩))) 41 (.int .u8 x2)) b _ ⟨hB, (p1_ hF.out), (p2_ hF.out), (p3_ hF.out), (p4_ hF.out), (p5_ hF.out), (p6_ hF.out), (p7_ hF.out), (p8_ hF.out), (p9_ hF.out), (p10_ hF.out), (p11_ hF.out), (p12_ hF.out), (p13_ hF.out), (p14_ hF.out), (p15_ hF.out), (p16_ hF.out), (p17_ hF.out), (p18_ hF.out), (fun _ => rfl), (fun _ => rfl), (p21_ hF.out), (p22_ hF.out), (p23_ hF.out), (p24_ hF.out), (p25_ hF.out), (p26_ hF.out), (p27_ hF.out), (p28_ hF.out), (p29_ hF.out), (p30_ hF.out), (p31_ hF.out), (p32_ hF.out), (p33_ hF.out), (p34_ hF.out), (p35_ hF.out), (p36_ hF.out), (p37_ hF.out), (q38_ hF.out)⟩
        refine StepsF.cons (o := _) rfl (ws := [19]) (by kernel_rfl) (by decide) (fun d s b w hF hd hw K_ hK => ?_) ?_
        · have hB : Below W0.heap.size W0 w := (p0_ hF.out)
          have e19 : s 41 = .int .u8 x2 := (p20_ hF.out) (hw 19 (by decide))
          dsimp only
          go_simp
          exact hK.out (ups (ups s 41 (.int .u8 x2)) 42 (.int .u32 x2)) b _ ⟨hB, (p1_ hF.out), (p2_ hF.out), (p3_ hF.out), (p4_ hF.out), (p5_ hF.out), (p6_ hF.out), (p7_ hF.out), (p8_ hF.out), (p9_ hF.out), (p10_ hF.out), (p11_ hF.out), (p12_ hF.out), (p13_ hF.out), (p14_ hF.out), (p15_ hF.out), (p16_ hF.out), (p17_ hF.out), (p18_ hF.out), (p19_ hF.out), (fun _ => rfl), (fun _ => rfl), (p22_ hF.out), (p23_ hF.out), (p24_ hF.out), (p25_ hF.out), (p26_ hF.out), (p27_ hF.out), (p28_ hF.out), (p29_ hF.out), (p30_ hF.out), (p31_ hF.out), (p32_ hF.out), (p33_ hF.out), (p34_ hF.out), (p35_ hF.out), (p36_ hF.out), (p37_ hF.out), (q38_ hF.out)⟩
        refine StepsF.cons (o := _) rfl (ws := [14, 20]) (by kernel_rfl) (by decide) (fun d s b w hF hd hw K_ hK => ?_) ?_
        · have hB : Below W0.heap.size W0 w := (p0_ hF.out)
          have e14 : s 36 = .int .u32 z1 := (p15_ hF.out) (hw 14 (by decide))
          have e20 : s 42 = .int .u32 x2 := (p21_ hF.out) (hw 20 (by decide))
          dsimp only
          go_simp
          exact hK.out (ups (ups (ups s 36 (.int .u32 z1)) 42 (.int .u32 x2)) 43 (.int .u32 y2)) b _ ⟨hB, (p1_ hF.out), (p2_ hF.out), (p3_ hF.out), (p4_ hF.out), (p5_ hF.out), (p6_ hF.out), (p7_ hF.out), (p8_ hF.out), (p9_ hF.out), (p10_ hF.out), (p11_ hF.out), (p12_ hF.out), (p13_ hF.out), (p14_ hF.out), (fun _ => rfl), (p16_ hF.out), (p17_ hF.out), (p18_ hF.out), (p19_ hF.out), (p20_ hF.out), (fun _ => rfl), (fun _ => rfl), (p23_ hF.out), (p24_ hF.out), (p25_ hF.out), (p26_ hF.out), (p27_ hF.out), (p28_ hF.out), (p29_ hF.out), (p30_ hF.out), (p31_ hF.out), (p32_ hF.out), (p33_ hF.out), (p34_ hF.out), (p35_ hF.out), (p36_ hF.out), (p37_ hF.out), (q38_ hF.out)⟩
        refine StepsF.cons (o := _) rfl (ws := [21]) (by kernel_rfl) (by decide) (fun d s b w hF hd hw K_ hK => ?_) ?_
        · have hB : Below W0.heap.size W0 w := (p0_ hF.out)
          have e21 : s 43 = .int .u32 y2 := (p22_ hF.out) (hw 21 (by decide))
          dsimp only
          go_simp
          exact hK.out (ups (ups s 43 (.int .u32 y2)) 44 (.int .u32 z2)) b _ ⟨hB, (p1_ hF.out), (p2_ hF.out), (p3_ hF.out), (p4_ hF.out), (p5_ hF.out), (p6_ hF.out), (p7_ hF.out), (p8_ hF.out), (p9_ hF.out), (p10_ hF.out), (p11_ hF.out), (p12_ hF.out), (p13_ hF.out), (p14_ hF.out), (p15_ hF.out), (p16_ hF.out), (p17_ hF.out), (p18_ hF.out), (p19_ hF.out), (p20_ hF.out), (p21_ hF.out), (fun _ => rfl), (fun _ => rfl), (p24_ hF.out), (p25_ hF.out), (p26_ hF.out), (p27_ hF.out), (p28_ hF.out), (p29_ hF.out), (p30_ hF.out), (p31_ hF.out), (p32_ hF.out), (p33_ hF.out), (p34_ hF.out), (p35_ hF.out), (p36_ hF.out), (p37_ hF.out), (q38_ hF.out)⟩
        refine StepsF.cons (o := _) rfl (ws := []) (by kernel_rfl) (by decide) (fun d s b w hF hd hw K_ hK => ?_) ?_
        · have hB : Below W0.heap.size W0 w := (p0_ hF.out)
          dsimp only
          go_simp
          exact hK.out (ups s 45 (.int .i64 k)) b _ ⟨hB, (p1_ hF.out), (p2_ hF.out), (p3_ hF.out), (p4_ hF.out), (p5_ hF.out), (p6_ hF.out), (p7_ hF.out), (p8_ hF.out), (p9_ hF.out), (p10_ hF.out), (p11_ hF.out), (p12_ hF.out), (p13_ hF.out), (p14_ hF.out), (p15_ hF.out), (p16_ hF.out), (p17_ hF.out), (p18_ hF.out), (p19_ hF.out), (p20_ hF.out), (p21_ hF.out), (p22_ hF.out), (p23_ hF.out), (fun _ => rfl), (p25_ hF.out), (p26_ hF.out), (p27_ hF.out), (p28_ hF.out), (p29_ hF.out), (p30_ hF.out), (p31_ hF.out), (p32_ hF.out), (p33_ hF.out), (p34_ hF.out), (p35_ hF.out), (p36_ hF.out), (p37_ hF.out), (q38_ hF.out)⟩
        refine StepsF.cons (o := _) rfl (ws := [23]) (by kernel_rfl) (by decide) (fun d s b w hF hd hw K_ hK => ?_) ?_
        · have hB : Below W0.heap.size W0 w := (p0_ hF.out)
          have e23 : s 45 = .int .i64 k := (p24_ hF.out) (hw 23 (by decide))
          dsimp only
          go_simp
          exact hK.out (ups (ups s 45 (.int .i64 k)) 46 (.int .i64 q)) b _ ⟨hB, (p1_ hF.out), (p2_ hF.out), (p3_ hF.out), (p4_ hF.out), (p5_ hF.out), (p6_ hF.out), (p7_ hF.out), (p8_ hF.out), (p9_ hF.out), (p10_ hF.out), (p11_ hF.out), (p12_ hF.out), (p13_ hF.out), (p14_ hF.out), (p15_ hF.out), (p16_ hF.out), (p17_ hF.out), (p18_ hF.out), (p19_ hF.out), (p20_ hF.out), (p21_ hF.out), (p22_ hF.out), (p23_ hF.out), (fun _ => rfl), (fun _ => rfl), (p26_ hF.out), (p27_ hF.out), (p28_ hF.out), (p29_ hF.out), (p30_ hF.out), (p31_ hF.out), (p32_ hF.out), (p33_ hF.out), (p34_ hF.out), (p35_ hF.out), (p36_ hF.out), (p37_ hF.out), (q38_ hF.out)⟩
        refine StepsF.cons (o := _) rfl (ws := [24]) (by kernel_rfl) (by decide) (fun d s b w hF hd hw K_ hK => ?_) ?_
        · have hB : Below W0.heap.size W0 w := (p0_ hF.out)
          have e24 : s 46 = .int .i64 q := (p25_ hF.out) (hw 24 (by decide))
          dsimp only
          go_simp
          exact hK.out (ups (ups s 46 (.int .i64 q)) 47 (.int .i64 r3)) b _ ⟨hB, (p1_ hF.out), (p2_ hF.out), (p3_ hF.out), (p4_ hF.out), (p5_ hF.out), (p6_ hF.out), (p7_ hF.out), (p8_ hF.out), (p9_ hF.out), (p10_ hF.out), (p11_ hF.out), (p12_ hF.out), (p13_ hF.out), (p14_ hF.out), (p15_ hF.out), (p16_ hF.out), (p17_ hF.out), (p18_ hF.out), (p19_ hF.out), (p20_ hF.out), (p21_ hF.out), (p22_ hF.out), (p23_ hF.out), (p24_ hF.out), (fun _ => rfl), (fun _ => rfl), (p27_ hF.out), (p28_ hF.out), (p29_ hF.out), (p30_ hF.out), (p31_ hF.out), (p32_ hF.out), (p33_ hF.out), (p34_ hF.out), (p35_ hF.out), (p36_ hF.out), (p37_ hF.out), (q38_ hF.out)⟩
        refine StepsF.cons (o := _) rfl (ws := [25]) (by kernel_rfl) (by decide) (fun d s b w hF hd hw K_ hK => ?_) ?_
        · have hB : Below W0.heap.size W0 w := (p0_ hF.out)
          have e25 : s 47 = .int .i64 r3 := (p26_ hF.out) (hw 25 (by decide))
          dsimp only
          go_simp
          exact hK.out (ups (ups s 47 (.int .i64 r3)) 48 (.pointer (some ⟨B, r3, none⟩))) b _ ⟨hB, (p1_ hF.out), (p2_ hF.out), (p3_ hF.out), (p4_ hF.out), (p5_ hF.out), (p6_ hF.out), (p7_ hF.out), (p8_ hF.out), (p9_ hF.out), (p10_ hF.out), (p11_ hF.out), (p12_ hF.out), (p13_ hF.out), (p14_ hF.out), (p15_ hF.out), (p16_ hF.out), (p17_ hF.out), (p18_ hF.out), (p19_ hF.out), (p20_ hF.out), (p21_ hF.out), (p22_ hF.out), (p23_ hF.out), (p24_ hF.out), (p25_ hF.out), (fun _ => rfl), (fun _ => rfl), (p28_ hF.out), (p29_ hF.out), (p30_ hF.out), (p31_ hF.out), (p32_ hF.out), (p33_ hF.out), (p34_ hF.out), (p35_ hF.out), (p36_ hF.out), (p37_ hF.out), (q38_ hF.out)⟩
        refine StepsF.cons (o := _) rfl (ws := [26]) (by kernel_rfl) (by decide) (fun d s b w hF hd hw K_ hK => ?_) ?_
        · have hB : Below W0.heap.size W0 w := (p0_ hF.out)
          have e26 : s 48 = .pointer (some ⟨B, r3, none⟩) := (p27_ hF.out) (hw 26 (by decide))
          dsimp only
          have oS := HBk.out.later hB
          have Sx := oS.at r3 _ V3.out
          clear oS
          go_simp
          exact hK.out (ups (ups s 48 (.pointer (some ⟨B, r3, none⟩))) 49 (.int .u8 x3)) b _ ⟨hB, (p1_ hF.out), (p2_ hF.out), (p3_ hF.out), (p4_ hF.out), (p5_ hF.out), (p6_ hF.out), (p7_ hF.out), (p8_ hF.out), (p9_ hF.out), (p10_ hF.out), (p11_ hF.out), (p12_ hF.out), (p13_ hF.out), (p14_ hF.out), (p15_ hF.out), (p16_ hF.out), (p17_ hF.out), (p18_ hF.out), (p19_ hF.out), (p20_ hF.out), (p21_ hF.out), (p22_ hF.out), (p23_ hF.out), (p24_ hF.out), (p25_ hF.out), (p26_ hF.out), (fun _ => rfl), (fun _ => rfl), (p29_ hF.out), (p30_ hF.out), (p31_ hF.out), (p32_ hF.out), (p33_ hF.out), (p34_ hF.out), (p35_ hF.out), (p36_ hF.out), (p37_ hF.out), (q38_ hF.out)⟩
        refine StepsF.cons (o := _) rfl (ws := [27]) (by kernel_rfl) (by decide) (fun d s b w hF hd hw K_ hK => ?_) ?_
        · have hB : Below W0.heap.size W0 w := (p0_ hF.out)
          have e27 : s 49 = .int .u8 x3 := (p28_ hF.out) (hw 27 (by decide))
          dsimp only
          go_simp
          exact hK.out (ups (ups s 49 (.int .u8 x3)) 50 (.int .u32 x3)) b _ ⟨hB, (p1_ hF.out), (p2_ hF.out), (p3_ hF.out), (p4_ hF.out), (p5_ hF.out), (p6_ hF.out), (p7_ hF.out), (p8_ hF.out), (p9_ hF.out), (p10_ hF.out), (p11_ hF.out), (p12_ hF.out), (p13_ hF.out), (p14_ hF.out), (p15_ hF.out), (p16_ hF.out), (p17_ hF.out), (p18_ hF.out), (p19_ hF.out), (p20_ hF.out), (p21_ hF.out), (p22_ hF.out), (p23_ hF.out), (p24_ hF.out), (p25_ hF.out), (p26_ hF.out), (p27_ hF.out), (fun _ => rfl), (fun _ => rfl), (p30_ hF.out), (p31_ hF.out), (p32_ hF.out), (p33_ hF.out), (p34_ hF.out), (p35_ hF.out), (p36_ hF.out), (p37_ hF.out), (q38_ hF.out)⟩
        refine StepsF.cons (o := _) rfl (ws := [22, 28]) (by kernel_rfl) (by decide) (fun d s b w hF hd hw K_ hK => ?_) ?_
        · have hB : Below W0.heap.size W0 w := (p0_ hF.out)
          have e22 : s 44 = .int .u32 z2 := (p23_ hF.out) (hw 22 (by decide))
          have e28 : s 50 = .int .u32 x3 := (p29_ hF.out) (hw 28 (by decide))
          dsimp only
          go_simp
          exact hK.out (ups (ups (ups s 44 (.int .u32 z2)) 50 (.int .u32 x3)) 51 (.int .u32 y3)) b _ ⟨hB, (p1_ hF.out), (p2_ hF.out), (p3_ hF.out), (p4_ hF.out), (p5_ hF.out), (p6_ hF.out), (p7_ hF.out), (p8_ hF.out), (p9_ hF.out), (p10_ hF.out), (p11_ hF.out), (p12_ hF.out), (p13_ hF.out), (p14_ hF.out), (p15_ hF.out), (p16_ hF.out), (p17_ hF.out), (p18_ hF.out), (p19_ hF.out), (p20_ hF.out), (p21_ hF.out), (p22_ hF.out), (fun _ => rfl), (p24_ hF.out), (p25_ hF.out), (p26_ hF.out), (p27_ hF.out), (p28_ hF.out), (fun _ => rfl), (fun _ => rfl), (p31_ hF.out), (p32_ hF.out), (p33_ hF.out), (p34_ hF.out), (p35_ hF.out), (p36_ hF.out), (p37_ hF.out), (q38_ hF.out)⟩
        refine StepsF.cons (o := _) rfl (ws := [29]) (by kernel_rfl) (by decide) (fun d s b w hF hd hw K_ hK => ?_) ?_
        · have hB : Below W0.heap.size W0 w := (p0_ hF.out)
          have e29 : s 51 = .int .u32 y3 := (p30_ hF.out) (hw 29 (by decide))
          dsimp only
          go_simp
          exact hK.out (ups (ups s 51 (.int .u32 y3)) 52 (.slice (some ⟨w.heap.size, 0, none⟩) 1 1)) (ups b 30 w.heap.size) _ ⟨(hB.alloc hB.size _), (p1_ hF.out), (p2_ hF.out), (p3_ hF.out), (p4_ hF.out), (p5_ hF.out), (p6_ hF.out), (p7_ hF.out), (p8_ hF.out), (p9_ hF.out), (p10_ hF.out), (p11_ hF.out), (p12_ hF.out), (p13_ hF.out), (p14_ hF.out), (p15_ hF.out), (p16_ hF.out), (p17_ hF.out), (p18_ hF.out), (p19_ hF.out), (p20_ hF.out), (p21_ hF.out), (p22_ hF.out), (p23_ hF.out), (p24_ hF.out), (p25_ hF.out), (p26_ hF.out), (p27_ hF.out), (p28_ hF.out), (p29_ hF.out), (fun _ => rfl), (fun _ => ⟨rfl, hB.size⟩), (fun _ _ => Own.newAt rfl), (fun h0 => row_later ((p33_ hF.out) h0) (Below.al (Below.refl _ _))), (fun h0 => row_later ((p34_ hF.out) h0) (Below.al (Below.refl _ _))), (p35_ hF.out), (p36_ hF.out), (p37_ hF.out), (q38_ hF.out)⟩
        refine StepsF.cons (o := _) rfl (ws := [0, 30]) (by kernel_rfl) (by decide) (fun d s b w hF hd hw K_ hK => ?_) ?_
        · have hB : Below W0.heap.size W0 w := (p0_ hF.out)
          have e32 : s 7 = (.slice p3 k c3) := (p36_ hF.out) (by cases e : d 32 with | false => rfl | true => exact absurd ((q38_ hF.out) e) (by simp [hd]))
          have e0 : s 22 = (.slice p3 k c3) := (p1_ hF.out) (hw 0 (by decide))
          have e30 : s 52 = .slice (some ⟨(b 30), 0, none⟩) 1 1 := ((p31_ hF.out) (hw 30 (by decide))).1
          have le30 : W0.heap.size ≤ b 30 := ((p31_ hF.out) (hw 30 (by decide))).2
          have hi := HI.out
          have hz0 := HZ0.out
          have hz1 := HZ1.out
          have hz2 := HZ2.out
          have go := (p33_ hF.out) hd; have nb := (p32_ hF.out) (hw 30 (by decide)) hd
          refine step_append_to rfl (.tmp 22) (.tmp 52) 61 rfl 27 i0 (.int .u32 0) 1 4 Tryd.underlying61 hi hz0 hz1 hz2 rfl (by decide) W0.heap.size (.slice p3 k c3) k (nums .u32 (sch bf k) k) ?a1 go ⟨b 30, 0, none⟩ 1 1 [.int .u32 y3] ?a2 rfl nb.news ?c2 ?c3 ?c4 hB.size ?_
          case a1 => exact e0
          case a2 => exact e30
          case c2 => simp [Value.oneCell']
          case c3 => unfold maxLen; omega
          case c4 => omega
          intro v' w' hown hg
          exact hK.out (ups s 53 (v')) b _ ⟨(Below.gro hB hg go (Nat.le_refl _)), (p1_ hF.out), (p2_ hF.out), (p3_ hF.out), (p4_ hF.out), (p5_ hF.out), (p6_ hF.out), (p7_ hF.out), (p8_ hF.out), (p9_ hF.out), (p10_ hF.out), (p11_ hF.out), (p12_ hF.out), (p13_ hF.out), (p14_ hF.out), (p15_ hF.out), (p16_ hF.out), (p17_ hF.out), (p18_ hF.out), (p19_ hF.out), (p20_ hF.out), (p21_ hF.out), (p22_ hF.out), (p23_ hF.out), (p24_ hF.out), (p25_ hF.out), (p26_ hF.out), (p27_ hF.out), (p28_ hF.out), (p29_ hF.out), (p30_ hF.out), (p31_ hF.out), (fun _ h => nomatch h), (fun h => nomatch h), (fun _ => hown), (fun h => absurd ((q38_ hF.out) h) (by simp [hd])), (p36_ hF.out), (p37_ hF.out), (fun _ => rfl)⟩
        refine StepsF.cons (o := _) rfl (ws := [31, 31, 0, 1, 2, 3, 4, 5, 6, 7, 8, 9, 10, 11, 12, 13, 14, 15, 16, 17, 18, 19, 20, 21, 22, 23, 24, 25, 26, 27, 28, 29, 30, 31]) (by kernel_rfl) (by decide) (fun d s b w hF hd hw K_ hK => ?_) ?_
        · have hB : Below W0.heap.size W0 w := (p0_ hF.out)
          have e0 : s 22 = (.slice p3 k c3) := (p1_ hF.out) (hw 0 (by decide))
          have e1 : s 23 = .int .i64 k := (p2_ hF.out) (hw 1 (by decide))
          have e2 : s 24 = .int .i64 q := (p3_ hF.out) (hw 2 (by decide))
          have e3 : s 25 = .pointer (some ⟨B, q, none⟩) := (p4_ hF.out) (hw 3 (by decide))
          have e4 : s 26 = .int .u8 x0 := (p5_ hF.out) (hw 4 (by decide))
          have e5 : s 27 = .int .u32 x0 := (p6_ hF.out) (hw 5 (by decide))
          have e6 : s 28 = .int .u32 z0 := (p7_ hF.out) (hw 6 (by decide))
          have e7 : s 29 = .int .i64 k := (p8_ hF.out) (hw 7 (by decide))
          have e8 : s 30 = .int .i64 q := (p9_ hF.out) (hw 8 (by decide))
          have e9 : s 31 = .int .i64 r1 := (p10_ hF.out) (hw 9 (by decide))
          have e10 : s 32 = .pointer (some ⟨B, r1, none⟩) := (p11_ hF.out) (hw 10 (by decide))
          have e11 : s 33 = .int .u8 x1 := (p12_ hF.out) (hw 11 (by decide))
          have e12 : s 34 = .int .u32 x1 := (p13_ hF.out) (hw 12 (by decide))
          have e13 : s 35 = .int .u32 y1 := (p14_ hF.out) (hw 13 (by decide))
          have e14 : s 36 = .int .u32 z1 := (p15_ hF.out) (hw 14 (by decide))
          have e15 : s 37 = .int .i64 k := (p16_ hF.out) (hw 15 (by decide))
          have e16 : s 38 = .int .i64 q := (p17_ hF.out) (hw 16 (by decide))
          have e17 : s 39 = .int .i64 r2 := (p18_ hF.out) (hw 17 (by decide))
          have e18 : s 40 = .pointer (some ⟨B, r2, none⟩) := (p19_ hF.out) (hw 18 (by decide))
          have e19 : s 41 = .int .u8 x2 := (p20_ hF.out) (hw 19 (by decide))
          have e20 : s 42 = .int .u32 x2 := (p21_ hF.out) (hw 20 (by decide))
          have e21 : s 43 = .int .u32 y2 := (p22_ hF.out) (hw 21 (by decide))
          have e22 : s 44 = .int .u32 z2 := (p23_ hF.out) (hw 22 (by decide))
          have e23 : s 45 = .int .i64 k := (p24_ hF.out) (hw 23 (by decide))
          have e24 : s 46 = .int .i64 q := (p25_ hF.out) (hw 24 (by decide))
          have e25 : s 47 = .int .i64 r3 := (p26_ hF.out) (hw 25 (by decide))
          have e26 : s 48 = .pointer (some ⟨B, r3, none⟩) := (p27_ hF.out) (hw 26 (by decide))
          have e27 : s 49 = .int .u8 x3 := (p28_ hF.out) (hw 27 (by decide))
          have e28 : s 50 = .int .u32 x3 := (p29_ hF.out) (hw 28 (by decide))
          have e29 : s 51 = .int .u32 y3 := (p30_ hF.out) (hw 29 (by decide))
          have e30 : s 52 = .slice (some ⟨(b 30), 0, none⟩) 1 1 := ((p31_ hF.out) (hw 30 (by decide))).1
          have le30 : W0.heap.size ≤ b 30 := ((p31_ hF.out) (hw 30 (by decide))).2
          dsimp only
          go_simp
          exact hK.out (ups (ups (ups (ups (ups (ups (ups (ups (ups (ups (ups (ups (ups (ups (ups (ups (ups (ups (ups (ups (ups (ups (ups (ups (ups (ups (ups (ups (ups (ups (ups (ups s 22 ((.slice p3 k c3))) 23 (.int .i64 k)) 24 (.int .i64 q)) 25 (.pointer (some ⟨B, q, none⟩))) 26 (.int .u8 x0)) 27 (.int .u32 x0)) 28 (.int .u32 z0)) 29 (.int .i64 k)) 30 (.int .i64 q)) 31 (.int .i64 r1)) 32 (.pointer (some ⟨B, r1, none⟩))) 33 (.int .u8 x1)) 34 (.int .u32 x1)) 35 (.int .u32 y1)) 36 (.int .u32 z1)) 37 (.int .i64 k)) 38 (.int .i64 q)) 39 (.int .i64 r2)) 40 (.pointer (some ⟨B, r2, none⟩))) 41 (.int .u8 x2)) 42 (.int .u32 x2)) 43 (.int .u32 y2)) 44 (.int .u32 z2)) 45 (.int .i64 k)) 46 (.int .i64 q)) 47 (.int .i64 r3)) 48 (.pointer (some ⟨B, r3, none⟩))) 49 (.int .u8 x3)) 50 (.int .u32 x3)) 51 (.int .u32 y3)) 52 (.slice (some ⟨(b 30), 0, none⟩) 1 1)) 7 (s 53)) b _ ⟨hB, (fun _ => rfl), (fun _ => rfl), (fun _ => rfl), (fun _ => rfl), (fun _ => rfl), (fun _ => rfl), (fun _ => rfl), (fun _ => rfl), (fun _ => rfl), (fun _ => rfl), (fun _ => rfl), (fun _ => rfl), (fun _ => rfl), (fun _ => rfl), (fun _ => rfl), (fun _ => rfl), (fun _ => rfl), (fun _ => rfl), (fun _ => rfl), (fun _ => rfl), (fun _ => rfl), (fun _ => rfl), (fun _ => rfl), (fun _ => rfl), (fun _ => rfl), (fun _ => rfl), (fun _ => rfl), (fun _ => rfl), (fun _ => rfl), (fun _ => rfl), (fun _ => ⟨rfl, le30⟩), (p32_ hF.out), (p33_ hF.out), (p34_ hF.out), (fun _ => rfl), (fun h => nomatch h), (fun _ => hw 0 (by decide)), (fun _ => hw 31 (by decide))⟩
        exact StepsF.nil
      intro d s b w6 hF hall
      replace hF := Lib.hid hF
      have hB : Below W0.heap.size W0 w6 := (p0_ hF.out)
      try dsimp only
      have e0 : s 22 = (.slice p3 k c3) := (p1_ hF.out) (hall 0 (by decide))
      have e1 : s 23 = .int .i64 k := (p2_ hF.out) (hall 1 (by decide))
      have e2 : s 24 = .int .i64 q := (p3_ hF.out) (hall 2 (by decide))
      have e3 : s 25 = .pointer (some ⟨B, q, none⟩) := (p4_ hF.out) (hall 3 (by decide))
      have e4 : s 26 = .int .u8 x0 := (p5_ hF.out) (hall 4 (by decide))
      have e5 : s 27 = .int .u32 x0 := (p6_ hF.out) (hall 5 (by decide))
      have e6 : s 28 = .int .u32 z0 := (p7_ hF.out) (hall 6 (by decide))
      have e7 : s 29 = .int .i64 k := (p8_ hF.out) (hall 7 (by decide))
      have e8 : s 30 = .int .i64 q := (p9_ hF.out) (hall 8 (by decide))
      have e9 : s 31 = .int .i64 r1 := (p10_ hF.out) (hall 9 (by decide))
      have e10 : s 32 = .pointer (some ⟨B, r1, none⟩) := (p11_ hF.out) (hall 10 (by decide))
      have e11 : s 33 = .int .u8 x1 := (p12_ hF.out) (hall 11 (by decide))
      have e12 : s 34 = .int .u32 x1 := (p13_ hF.out) (hall 12 (by decide))
      have e13 : s 35 = .int .u32 y1 := (p14_ hF.out) (hall 13 (by decide))
      have e14 : s 36 = .int .u32 z1 := (p15_ hF.out) (hall 14 (by decide))
      have e15 : s 37 = .int .i64 k := (p16_ hF.out) (hall 15 (by decide))
      have e16 : s 38 = .int .i64 q := (p17_ hF.out) (hall 16 (by decide))
      have e17 : s 39 = .int .i64 r2 := (p18_ hF.out) (hall 17 (by decide))
      have e18 : s 40 = .pointer (some ⟨B, r2, none⟩) := (p19_ hF.out) (hall 18 (by decide))
      have e19 : s 41 = .int .u8 x2 := (p20_ hF.out) (hall 19 (by decide))
      have e20 : s 42 = .int .u32 x2 := (p21_ hF.out) (hall 20 (by decide))
      have e21 : s 43 = .int .u32 y2 := (p22_ hF.out) (hall 21 (by decide))
      have e22 : s 44 = .int .u32 z2 := (p23_ hF.out) (hall 22 (by decide))
      have e23 : s 45 = .int .i64 k := (p24_ hF.out) (hall 23 (by decide))
      have e24 : s 46 = .int .i64 q := (p25_ hF.out) (hall 24 (by decide))
      have e25 : s 47 = .int .i64 r3 := (p26_ hF.out) (hall 25 (by decide))
      have e26 : s 48 = .pointer (some ⟨B, r3, none⟩) := (p27_ hF.out) (hall 26 (by decide))
      have e27 : s 49 = .int .u8 x3 := (p28_ hF.out) (hall 27 (by decide))
      have e28 : s 50 = .int .u32 x3 := (p29_ hF.out) (hall 28 (by decide))
      have e29 : s 51 = .int .u32 y3 := (p30_ hF.out) (hall 29 (by decide))
      have e30 : s 52 = .slice (some ⟨(b 30), 0, none⟩) 1 1 := ((p31_ hF.out) (hall 30 (by decide))).1
      have le30 : W0.heap.size ≤ b 30 := ((p31_ hF.out) (hall 30 (by decide))).2
      have f31 := (p34_ hF.out) (hall 31 (by decide))
      have e32 : s 7 = s 53 := (p35_ hF.out) (hall 32 (by decide))
      rw [e0, e1, e2, e3, e4, e5, e6, e7, e8, e9, e10, e11, e12, e13, e14, e15, e16, e17, e18, e19, e20, e21, e22, e23, e24, e25, e26, e27, e28, e29, e30, e32]
      clear hall hF e0 e1 e2 e3 e4 e5 e6 e7 e8 e9 e10 e11 e12 e13 e14 e15 e16 e17 e18 e19 e20 e21 e22 e23 e24 e25 e26 e27 e28 e29 e30 e32
      obtain ⟨nw, hz⟩ : ∃ x, x = b 30 := ⟨_, rfl⟩
      rw [← hz] at le30 ⊢
      clear hz
      obtain ⟨u1_, hz⟩ : ∃ x, x = s 53 := ⟨_, rfl⟩
      rw [← hz] at f31 ⊢
      clear hz
      clear d s b
      obtain ⟨p5, c5, rfl, _⟩ := row_form f31
      rw [XS.out] at f31
      have o6 := Lib.hid f31
      have o7 := Lib.hid hB
      clear f31 hB ROW HB XS
      go_wp2_with (fail)
      go_roundw
      case rel => (first | exact ⟨k + 1, _, _, HLT.out, rfl, by go_num, o6, o7⟩ | ((repeat apply Exists.intro); exact ⟨⟨k + 1, _, _, HLT.out, rfl, by go_num, o6, o7⟩, rfl⟩))
      case measure => (have := HLT.out; simp [intOf]; omega)
    · obtain rfl : k = 16 := by omega
      clear hlt hk
      go_wp2_with (fail)
      go_loopw [7, 9] (fun v iv wr => ∃ (k : Nat) (p3 : Option Addr) (c3 : Nat), 16 ≤ k ∧ k ≤ 64 ∧ v = .slice p3 k c3 ∧ iv = .int .i64 k ∧ Hid (wr.ownsRow W0.heap.size 27 1 (.slice p3 k c3) k (nums .u32 (sch bf k) k)) ∧ Hid (Below W0.heap.size W0 wr)) (fun _ iv _ => (64 - (intOf iv).toNat))
      case atStart => exact ⟨16, _, _, Nat.le_refl _, by decide, rfl, rfl, ROW, HB⟩
      case round =>
        clear ROW HB
        obtain ⟨k, p3, c3, hk16, hk, rfl, rfl, ROW, HB⟩ := hrel
        by_cases hlt : k < 64
        · have XE := Lib.hid (fun v (hv : v = newW (sch bf k) k) => sch_grow bf k v (by rw [if_neg (by omega)]; exact hv))
          obtain ⟨X, c4, e4, _, _⟩ := row_blk ROW.out (by omega)
          cases e4
          have HY := Lib.hid (row_has ROW.out).1
          obtain ⟨a2, e2⟩ : ∃ a, a = k - 2 := ⟨_, rfl⟩
          obtain ⟨a7, e7⟩ : ∃ a, a = k - 7 := ⟨_, rfl⟩
          obtain ⟨a15, e15⟩ : ∃ a, a = k - 15 := ⟨_, rfl⟩
          obtain ⟨a16, e16⟩ : ∃ a, a = k - 16 := ⟨_, rfl⟩
          have J2 := Lib.hid (in_sch IB.out k a2); have J7 := Lib.hid (in_sch IB.out k a7); have J15 := Lib.hid (in_sch IB.out k a15); have J16 := Lib.hid (in_sch IB.out k a16)
          have V2 := Lib.hid (nums_at .u32 (sch bf k) (show a2 < k by omega)); have V7 := Lib.hid (nums_at .u32 (sch bf k) (show a7 < k by omega)); have V15 := Lib.hid (nums_at .u32 (sch bf k) (show a15 < k by omega)); have V16 := Lib.hid (nums_at .u32 (sch bf k) (show a16 < k by omega))
          have E : Hid (newW (sch bf k) k = add32 (add32 (add32 (sma1 (sch bf k a2)) (sch bf k a7)) (sma0 (sch bf k a15))) (sch bf k a16)) := Lib.hid (by rw [e2, e7, e15, e16, newW])
          generalize sch bf k a2 = x2 at *
          generalize sch bf k a7 = x7 at *
          generalize sch bf k a15 = x15 at *
          generalize sch bf k a16 = x16 at *
          obtain ⟨s0, es0⟩ : ∃ z, sma0 x15 = z := ⟨_, rfl⟩
          obtain ⟨s1, es1⟩ : ∃ z, sma1 x2 = z := ⟨_, rfl⟩
          rw [es0, es1] at E
          obtain ⟨y0, g0⟩ : ∃ z, bits .xor .u32 (ror 7 x15) (ror 18 x15) = z := ⟨_, rfl⟩
          obtain ⟨h0, g1⟩ : ∃ z, x15 / 8 = z := ⟨_, rfl⟩
          have g2 : bits .xor .u32 y0 h0 = s0 := by rw [← g0, ← g1]; exact es0
          obtain ⟨y3, g3⟩ : ∃ z, bits .xor .u32 (ror 17 x2) (ror 19 x2) = z := ⟨_, rfl⟩
          obtain ⟨h3, g4⟩ : ∃ z, x2 / 1024 = z := ⟨_, rfl⟩
          have g5 : bits .xor .u32 y3 h3 = s1 := by rw [← g3, ← g4]; exact es1
          obtain ⟨p1, f1⟩ : ∃ z, add32 s1 x7 = z := ⟨_, rfl⟩
          obtain ⟨p2, f2⟩ : ∃ z, add32 p1 s0 = z := ⟨_, rfl⟩
          obtain ⟨pz, f3⟩ : ∃ z, add32 p2 x16 = z := ⟨_, rfl⟩
          rw [f1, f2, f3] at E
          have XS := Lib.hid (XE.out pz E.out.symm)
          have m1 : IntKind.u32.wrap (s1 + x7) = p1 := (IntKind.wrap_u32' _).trans f1
          have m2 : IntKind.u32.wrap (p1 + s0) = p2 := (IntKind.wrap_u32' _).trans f2
          have m3 : IntKind.u32.wrap (p2 + x16) = pz := (IntKind.wrap_u32' _).trans f3
          unfold add32 at f1 f2 f3
          clear es0 es1 XE
          have d2 : (k : Int) - 2 = (a2 : Int) := by omega
          have b2 : (a2 : Int) < (k : Int) := by omega
          have c2 : (0 : Int) ≤ (a2 : Int) := by omega
          have w2 : IntKind.i64.wrap (a2 : Int) = (a2 : Int) := IntWalk.i64_in _ (by omega)
          have d7 : (k : Int) - 7 = (a7 : Int) := by omega
          have b7 : (a7 : Int) < (k : Int) := by omega
          have c7 : (0 : Int) ≤ (a7 : Int) := by omega
          have w7 : IntKind.i64.wrap (a7 : Int) = (a7 : Int) := IntWalk.i64_in _ (by omega)
          have d15 : (k : Int) - 15 = (a15 : Int) := by omega
          have b15 : (a15 : Int) < (k : Int) := by omega
          have c15 : (0 : Int) ≤ (a15 : Int) := by omega
          have w15 : IntKind.i64.wrap (a15 : Int) = (a15 : Int) := IntWalk.i64_in _ (by omega)
          have d16 : (k : Int) - 16 = (a16 : Int) := by omega
          have b16 : (a16 : Int) < (k : Int) := by omega
          have c16 : (0 : Int) ≤ (a16 : Int) := by omega
          have w16 : IntKind.i64.wrap (a16 : Int) = (a16 : Int) := IntWalk.i64_in _ (by omega)
          have hki : (k : Int) < 64 := by omega
          have k0 : (0 : Int) ≤ (k : Int) := by omega
          have wk : IntKind.i64.wrap ((k : Int) + 1) = (k : Int) + 1 := IntWalk.i64_in _ (by omega)
          have HLT := Lib.hid hlt
          have H16 := Lib.hid hk16
          clear hlt hk hk16 e2 e7 e15 e16 E
          have s2 := HY.out.cell a2 _ V2.out; have s15 := HY.out.cell a15 _ V15.out
          rw [Nat.zero_add] at s2 s15
          go_wp2_with (fail)
          go_quiet (first | (go_at_call 30; first | (with_reducible refine Calls.quiet_of (rrot7_any x15 J15.out _)) | (with_reducible refine Calls.quiet_of (rrot18_any x15 J15.out _))))
          have hBd : Below wr.heap.size wr (wr.drewN nq) := below_drewN (Below.refl _ _) _
          have s2n : (wr.drewN nq).cell? ⟨X, a2, none⟩ = some (.int .u32 x2) := by have := (HY.out.later hBd).cell a2 _ V2.out; rwa [Nat.zero_add] at this
          have ROWn := Lib.hid (row_later ROW.out hBd); have HYn := Lib.hid (HY.out.later hBd); have HBn := Lib.hid (Below.go HB.out hBd)
          clear ROW HY HB s2 s15 hBd
          have ROW := ROWn; have HY := HYn; have HB := HBn; have s2 := s2n
          clear ROWn HYn HBn s2n
          generalize wr.drewN nq = w1 at *
          go_wp2_with (fail)
          go_quiet (first | (go_at_call 30; first | (with_reducible refine Calls.quiet_of (rrot17_any x2 J2.out _)) | (with_reducible refine Calls.quiet_of (rrot19_any x2 J2.out _))))
          have hBd : Below w1.heap.size w1 (w1.drewN nq) := below_drewN (Below.refl _ _) _
          have ROWn := Lib.hid (row_later ROW.out hBd); have HYn := Lib.hid (HY.out.later hBd); have HBn := Lib.hid (Below.go HB.out hBd)
          clear ROW HY HB s2 hBd
          have ROW := ROWn; have HY := HYn; have HB := HBn
          clear ROWn HYn HBn g0 g1 g2 g3 g4 g5
          generalize w1.drewN nq = w2 at *
          have K5 : k + 1 ≤ 65536 := by have := HLT.out; omega
          have BH := HB.out
          go_upto_region 11 with fail
          refine wp_region_fun 19 (by kernel_rfl) (by kernel_rfl) rfl (fun s b => ⟨#[(.agg (nums .u32 kf 64).toArray), (.agg (nums .u32 hf 8).toArray), (.agg (nums .u8 bf 64).toArray), .pointer (some ⟨Kb, 0, none⟩), .pointer (some ⟨H, 0, none⟩), .pointer (some ⟨B, 0, none⟩), .pointer (some ⟨R, 0, none⟩), s 7, .int .i64 ((16 : Nat) : Int), .int .i64 k, .int .u32 s0, .int .u32 s1, undef, undef, undef, undef, undef, undef, .int .i64 ((16 : Nat) : Int), .bool false, u20, u21, u22, u23, u24, u25, u26, u27, u28, u29, u30, u31, u32, u33, u34, u35, u36, u37, u38, u39, u40, u41, u42, u43, u44, u45, u46, u47, u48, u49, u50, u51, u52, u53, .int .i64 k, .bool true, u56, u57, .slice (some ⟨X, 0, none⟩) k c3, .int .i64 k, .int .i64 a15, .pointer (some ⟨X, a15, none⟩), .int .u32 x15, .int .u32 (ror 7 x15), .slice (some ⟨X, 0, none⟩) k c3, .int .i64 k, .int .i64 a15, .pointer (some ⟨X, a15, none⟩), .int .u32 x15, .int .u32 (ror 18 x15), .int .u32 y0, .slice (some ⟨X, 0, none⟩) k c3, .int .i64 k, .int .i64 a15, .pointer (some ⟨X, a15, none⟩), .int .u32 x15, .int .u32 h0, .int .u32 s0, .slice (some ⟨X, 0, none⟩) k c3, .int .i64 k, .int .i64 a2, .pointer (some ⟨X, a2, none⟩), .int .u32 x2, .int .u32 (ror 17 x2), .slice (some ⟨X, 0, none⟩) k c3, .int .i64 k, .int .i64 a2, .pointer (some ⟨X, a2, none⟩), .int .u32 x2, .int .u32 (ror 19 x2), .int .u32 y3, .slice (some ⟨X, 0, none⟩) k c3, .int .i64 k, .int .i64 a2, .pointer (some ⟨X, a2, none⟩), .int .u32 x2, .int .u32 h3, .int .u32 s1, s 98, s 99, s 100, s 101, s 102, s 103, s 104, s 105, s 106, s 107, s 108, s 109, s 110, s 111, s 112, s 113, s 114, s 115, undef, undef, undef, undef, undef, undef, undef, undef, undef, undef, undef, undef, undef, undef, undef, undef, undef, undef, undef, undef, undef, undef, undef, undef, undef, undef, undef, undef, undef, undef, undef, undef, undef, undef, undef, undef, undef, undef, undef, undef, undef, undef, undef, undef, undef, undef, undef, undef, undef, undef, undef, undef, undef, undef, undef, undef, undef, undef, undef, undef, undef, undef, undef, undef, undef, undef, undef, undef, undef, undef, undef, undef, undef, undef, undef, undef, undef, undef, undef, undef, undef, undef, undef, undef, undef, undef, undef, undef, undef, undef, undef, undef, undef, undef, undef, undef, undef, undef, undef, undef, undef, undef, undef], []⟩) (fun d s b w => (Below W0.heap.size W0 w) ∧ (d 0 = true → s 98 = .slice (some ⟨X, 0, none⟩) k c3) ∧ (d 1 = true → s 99 = .int .u32 s1) ∧ (d 2 = true → s 100 = .slice (some ⟨X, 0, none⟩) k c3) ∧ (d 3 = true → s 101 = .int .i64 k) ∧ (d 4 = true → s 102 = .int .i64 a7) ∧ (d 5 = true → s 103 = .pointer (some ⟨X, a7, none⟩)) ∧ (d 6 = true → s 104 = .int .u32 x7) ∧ (d 7 = true → s 105 = .int .u32 p1) ∧ (d 8 = true → s 106 = .int .u32 s0) ∧ (d 9 = true → s 107 = .int .u32 p2) ∧ (d 10 = true → s 108 = .slice (some ⟨X, 0, none⟩) k c3) ∧ (d 11 = true → s 109 = .int .i64 k) ∧ (d 12 = true → s 110 = .int .i64 a16) ∧ (d 13 = true → s 111 = .pointer (some ⟨X, a16, none⟩)) ∧ (d 14 = true → s 112 = .int .u32 x16) ∧ (d 15 = true → s 113 = .int .u32 pz) ∧ (d 16 = true → s 114 = .slice (some ⟨(b 16), 0, none⟩) 1 1 ∧ W0.heap.size ≤ b 16) ∧ (d 16 = true → d 17 = false → Own (b 16) [.int .u32 pz] w) ∧ (d 17 = false → w.ownsRow W0.heap.size 27 1 (.slice (some ⟨X, 0, none⟩) k c3) k (nums .u32 (sch bf k) k)) ∧ (d 17 = true → w.ownsRow W0.heap.size 27 1 (s 115) (k + 1) ((nums .u32 (sch bf k) k) ++ [.int .u32 pz])) ∧ (d 18 = true → s 7 = s 115) ∧ (d 18 = false → s 7 = (.slice (some ⟨X, 0, none⟩) k c3)) ∧ (d 18 = true → d 0 = true) ∧ (d 18 = true → d 2 = true) ∧ (d 18 = true → d 10 = true) ∧ (d 18 = true → d 17 = true) ∧ (d 7 = true → d 6 = true) ∧ (d 9 = true → d 7 = true) ∧ (d 15 = true → d 9 = true) ∧ (d 15 = true → d 14 = true) ∧ (d 16 = true → d 15 = true) ∧ (d 17 = true → d 16 = true)) rfl ?h0w7 (?stw7 : StepsF _ _ _ _ 19 _ _ [0, 1, 2, 3, 4, 5, 6, 7, 8, 9, 10, 11, 12, 13, 14, 15, 16, 17, 18]) ?dnw7
          case h0w7 => exact ⟨Below.drew BH, (fun h => nomatch h), (fun h => nomatch h), (fun h => nomatch h), (fun h => nomatch h), (fun h => nomatch h), (fun h => nomatch h), (fun h => nomatch h), (fun h => nomatch h), (fun h => nomatch h), (fun h => nomatch h), (fun h => nomatch h), (fun h => nomatch h), (fun h => nomatch h), (fun h => nomatch h), (fun h => nomatch h), (fun h => nomatch h), (fun h => nomatch h), (fun h => nomatch h), (fun _ => row_later ROW.out (Below.refl _ _).drew), (fun h => nomatch h), (fun h => nomatch h), (fun _ => rfl), (fun h => nomatch h), (fun h => nomatch h), (fun h => nomatch h), (fun h => nomatch h), (fun h => nomatch h), (fun h => nomatch h), (fun h => nomatch h), (fun h => nomatch h), (fun h => nomatch h), (fun h => nomatch h)⟩
          case stw7 =>
            refine StepsF.cons (o := _) rfl (ws := []) (by kernel_rfl) (by decide) (fun d s b w hF hd hw K_ hK => ?_) ?_
            · have hB : Below W0.heap.size W0 w := (p0_ hF.out)
              have e18 : s 7 = (.slice (some ⟨X, 0, none⟩) k c3) := (p22_ hF.out) (by cases e : d 18 with | false => rfl | true => exact absurd ((p23_ hF.out) e) (by simp [hd]))
              dsimp only
              go_simp
              exact hK.out (ups (ups s 7 ((.slice (some ⟨X, 0, none⟩) k c3))) 98 (.slice (some ⟨X, 0, none⟩) k c3)) b _ ⟨hB, (fun _ => rfl), (p2_ hF.out), (p3_ hF.out), (p4_ hF.out), (p5_ hF.out), (p6_ hF.out), (p7_ hF.out), (p8_ hF.out), (p9_ hF.out), (p10_ hF.out), (p11_ hF.out), (p12_ hF.out), (p13_ hF.out), (p14_ hF.out), (p15_ hF.out), (p16_ hF.out), (p17_ hF.out), (p18_ hF.out), (p19_ hF.out), (p20_ hF.out), (fun h => absurd ((p23_ hF.out) h) (by simp [hd])), (fun _ => rfl), (fun _ => rfl), (p24_ hF.out), (p25_ hF.out), (p26_ hF.out), (p27_ hF.out), (p28_ hF.out), (p29_ hF.out), (p30_ hF.out), (p31_ hF.out), (q32_ hF.out)⟩
            refine StepsF.cons (o := _) rfl (ws := []) (by kernel_rfl) (by decide) (fun d s b w hF hd hw K_ hK => ?_) ?_
            · have hB : Below W0.heap.size W0 w := (p0_ hF.out)
              dsimp only
              go_simp
              exact hK.out (ups s 99 (.int .u32 s1)) b _ ⟨hB, (p1_ hF.out), (fun _ => rfl), (p3_ hF.out), (p4_ hF.out), (p5_ hF.out), (p6_ hF.out), (p7_ hF.out), (p8_ hF.out), (p9_ hF.out), (p10_ hF.out), (p11_ hF.out), (p12_ hF.out), (p13_ hF.out), (p14_ hF.out), (p15_ hF.out), (p16_ hF.out), (p17_ hF.out), (p18_ hF.out), (p19_ hF.out), (p20_ hF.out), (p21_ hF.out), (p22_ hF.out), (p23_ hF.out), (p24_ hF.out), (p25_ hF.out), (p26_ hF.out), (p27_ hF.out), (p28_ hF.out), (p29_ hF.out), (p30_ hF.out), (p31_ hF.out), (q32_ hF.out)⟩
            refine StepsF.cons (o := _) rfl (ws := []) (by kernel_rfl) (by decide) (fun d s b w hF hd hw K_ hK => ?_) ?_
            · have hB : Below W0.heap.size W0 w := (p0_ hF.out)
              have e18 : s 7 = (.slice (some ⟨X, 0, none⟩) k c3) := (p22_ hF.out) (by cases e : d 18 with | false => rfl | true => exact absurd ((p24_ hF.out) e) (by simp [hd]))
              dsimp only
              go_simp
              exact hK.out (ups (ups s 7 ((.slice (some ⟨X, 0, none⟩) k c3))) 100 (.slice (some ⟨X, 0, none⟩) k c3)) b _ ⟨hB, (p1_ hF.out), (p2_ hF.out), (fun _ => rfl), (p4_ hF.out), (p5_ hF.out), (p6_ hF.out), (p7_ hF.out), (p8_ hF.out), (p9_ hF.out), (p10_ hF.out), (p11_ hF.out), (p12_ hF.out), (p13_ hF.out), (p14_ hF.out), (p15_ hF.out), (p16_ hF.out), (p17_ hF.out), (p18_ hF.out), (p19_ hF.out), (p20_ hF.out), (fun h => absurd ((p24_ hF.out) h) (by simp [hd])), (fun _ => rfl), (p23_ hF.out), (fun _ => rfl), (p25_ hF.out), (p26_ hF.out), (p27_ hF.out), (p28_ hF.out), (p29_ hF.out), (p30_ hF.out), (p31_ hF.out), (q32_ hF.out)⟩
            refine StepsF.cons (o := _) rfl (ws := []) (by kernel_rfl) (by decide) (fun d s b w hF hd hw K_ hK => ?_) ?_
            · have hB : Below W0.heap.size W0 w := (p0_ hF.out)
              dsimp only
              go_simp
              exact hK.out (ups s 101 (.int .i64 k)) b _ ⟨hB, (p1_ hF.out), (p2_ hF.out), (p3_ hF.out), (fun _ => rfl), (p5_ hF.out), (p6_ hF.out), (p7_ hF.out), (p8_ hF.out), (p9_ hF.out), (p10_ hF.out), (p11_ hF.out), (p12_ hF.out), (p13_ hF.out), (p14_ hF.out), (p15_ hF.out), (p16_ hF.out), (p17_ hF.out), (p18_ hF.out), (p19_ hF.out), (p20_ hF.out), (p21_ hF.out), (p22_ hF.out), (p23_ hF.out), (p24_ hF.out), (p25_ hF.out), (p26_ hF.out), (p27_ hF.out), (p28_ hF.out), (p29_ hF.out), (p30_ hF.out), (p31_ hF.out), (q32_ hF.out)⟩
            refine StepsF.cons (o := _) rfl (ws := [3]) (by kernel_rfl) (by decide) (fun d s b w hF hd hw K_ hK => ?_) ?_
            · have hB : Below W0.heap.size W0 w := (p0_ hF.out)
              have e3 : s 101 = .int .i64 k := (p4_ hF.out) (hw 3 (by decide))
              dsimp only
              go_simp
              exact hK.out (ups (ups s 101 (.int .i64 k)) 102 (.int .i64 a7)) b _ ⟨hB, (p1_ hF.out), (p2_ hF.out), (p3_ hF.out), (fun _ => rfl), (fun _ => rfl), (p6_ hF.out), (p7_ hF.out), (p8_ hF.out), (p9_ hF.out), (p10_ hF.out), (p11_ hF.out), (p12_ hF.out), (p13_ hF.out), (p14_ hF.out), (p15_ hF.out), (p16_ hF.out), (p17_ hF.out), (p18_ hF.out), (p19_ hF.out), (p20_ hF.out), (p21_ hF.out), (p22_ hF.out), (p23_ hF.out), (p24_ hF.out), (p25_ hF.out), (p26_ hF.out), (p27_ hF.out), (p28_ hF.out), (p29_ hF.out), (p30_ hF.out), (p31_ hF.out), (q32_ hF.out)⟩
            refine StepsF.cons (o := _) rfl (ws := [2, 4]) (by kernel_rfl) (by decide) (fun d s b w hF hd hw K_ hK => ?_) ?_
            · have hB : Below W0.heap.size W0 w := (p0_ hF.out)
              have e2 : s 100 = .slice (some ⟨X, 0, none⟩) k c3 := (p3_ hF.out) (hw 2 (by decide))
              have e4 : s 102 = .int .i64 a7 := (p5_ hF.out) (hw 4 (by decide))
              dsimp only
              go_simp
              exact hK.out (ups (ups (ups s 100 (.slice (some ⟨X, 0, none⟩) k c3)) 102 (.int .i64 a7)) 103 (.pointer (some ⟨X, a7, none⟩))) b _ ⟨hB, (p1_ hF.out), (p2_ hF.out), (fun _ => rfl), (p4_ hF.out), (fun _ => rfl), (fun _ => rfl), (p7_ hF.out), (p8_ hF.out), (p9_ hF.out), (p10_ hF.out), (p11_ hF.out), (p12_ hF.out), (p13_ hF.out), (p14_ hF.out), (p15_ hF.out), (p16_ hF.out), (p17_ hF.out), (p18_ hF.out), (p19_ hF.out), (p20_ hF.out), (p21_ hF.out), (p22_ hF.out), (p23_ hF.out), (p24_ hF.out), (p25_ hF.out), (p26_ hF.out), (p27_ hF.out), (p28_ hF.out), (p29_ hF.out), (p30_ hF.out), (p31_ hF.out), (q32_ hF.out)⟩
            refine StepsF.cons (o := _) rfl (ws := [5]) (by kernel_rfl) (by decide) (fun d s b w hF hd hw K_ hK => ?_) ?_
            · have hB : Below W0.heap.size W0 w := (p0_ hF.out)
              have e5 : s 103 = .pointer (some ⟨X, a7, none⟩) := (p6_ hF.out) (hw 5 (by decide))
              dsimp only
              have h7 : d 7 = false := by cases e : d 7 with | false => rfl | true => exact absurd ((p27_ hF.out) e) (by simp [hd])
              have h9 : d 9 = false := by cases e : d 9 with | false => rfl | true => exact absurd ((p28_ hF.out) e) (by simp [h7])
              have h15 : d 15 = false := by cases e : d 15 with | false => rfl | true => exact absurd ((p29_ hF.out) e) (by simp [h9])
              have h16 : d 16 = false := by cases e : d 16 with | false => rfl | true => exact absurd ((p31_ hF.out) e) (by simp [h15])
              have h17 : d 17 = false := by cases e : d 17 with | false => rfl | true => exact absurd ((q32_ hF.out) e) (by simp [h16])
              have Sx := (row_has ((p19_ hF.out) h17)).1.cell a7 _ V7.out
              rw [Nat.zero_add] at Sx
              go_simp
              exact hK.out (ups (ups s 103 (.pointer (some ⟨X, a7, none⟩))) 104 (.int .u32 x7)) b _ ⟨hB, (p1_ hF.out), (p2_ hF.out), (p3_ hF.out), (p4_ hF.out), (p5_ hF.out), (fun _ => rfl), (fun _ => rfl), (p8_ hF.out), (p9_ hF.out), (p10_ hF.out), (p11_ hF.out), (p12_ hF.out), (p13_ hF.out), (p14_ hF.out), (p15_ hF.out), (p16_ hF.out), (p17_ hF.out), (p18_ hF.out), (p19_ hF.out), (p20_ hF.out), (p21_ hF.out), (p22_ hF.out), (p23_ hF.out), (p24_ hF.out), (p25_ hF.out), (p26_ hF.out), (fun _ => rfl), (p28_ hF.out), (p29_ hF.out), (p30_ hF.out), (p31_ hF.out), (q32_ hF.out)⟩
            refine StepsF.cons (o := _) rfl (ws := [1, 6]) (by kernel_rfl) (by decide) (fun d s b w hF hd hw K_ hK => ?_) ?_
            · have hB : Below W0.heap.size W0 w := (p0_ hF.out)
              have e1 : s 99 = .int .u32 s1 := (p2_ hF.out) (hw 1 (by decide))
              have e6 : s 104 = .int .u32 x7 := (p7_ hF.out) (hw 6 (by decide))
              dsimp only
              go_simp
              exact hK.out (ups (ups (ups s 99 (.int .u32 s1)) 104 (.int .u32 x7)) 105 (.int .u32 p1)) b _ ⟨hB, (p1_ hF.out), (fun _ => rfl), (p3_ hF.out), (p4_ hF.out), (p5_ hF.out), (p6_ hF.out), (fun _ => rfl), (fun _ => rfl), (p9_ hF.out), (p10_ hF.out), (p11_ hF.out), (p12_ hF.out), (p13_ hF.out), (p14_ hF.out), (p15_ hF.out), (p16_ hF.out), (p17_ hF.out), (p18_ hF.out), (p19_ hF.out), (p20_ hF.out), (p21_ hF.out), (p22_ hF.out), (p23_ hF.out), (p24_ hF.out), (p25_ hF.out), (p26_ hF.out), (fun _ => hw 6 (by decide)), (fun _ => rfl), (p29_ hF.out), (p30_ hF.out), (p31_ hF.out), (q32_ hF.out)⟩
            refine StepsF.cons (o := _) rfl (ws := []) (by kernel_rfl) (by decide) (fun d s b w hF hd hw K_ hK => ?_) ?_
            · have hB : Below W0.heap.size W0 w := (p0_ hF.out)
              dsimp only
              go_simp
              exact hK.out (ups s 106 (.int .u32 s0)) b _ ⟨hB, (p1_ hF.out), (p2_ hF.out), (p3_ hF.out), (p4_ hF.out), (p5_ hF.out), (p6_ hF.out), (p7_ hF.out), (p8_ hF.out), (fun _ => rfl), (p10_ hF.out), (p11_ hF.out), (p12_ hF.out), (p13_ hF.out), (p14_ hF.out), (p15_ hF.out), (p16_ hF.out), (p17_ hF.out), (p18_ hF.out), (p19_ hF.out), (p20_ hF.out), (p21_ hF.out), (p22_ hF.out), (p23_ hF.out), (p24_ hF.out), (p25_ hF.out), (p26_ hF.out), (p27_ hF.out), (p28_ hF.out), (p29_ hF.out), (p30_ hF.out), (p31_ hF.out), (q32_ hF.out)⟩
            refine StepsF.cons (o := _) rfl (ws := [7, 8]) (by kernel_rfl) (by decide) (fun d s b w hF hd hw K_ hK => ?_) ?_
            · have hB : Below W0.heap.size W0 w := (p0_ hF.out)
              have e7 : s 105 = .int .u32 p1 := (p8_ hF.out) (hw 7 (by decide))
              have e8 : s 106 = .int .u32 s0 := (p9_ hF.out) (hw 8 (by decide))
              dsimp only
              go_simp
              exact hK.out (ups (ups (ups s 105 (.int .u32 p1)) 106 (.int .u32 s0)) 107 (.int .u32 p2)) b _ ⟨hB, (p1_ hF.out), (p2_ hF.out), (p3_ hF.out), (p4_ hF.out), (p5_ hF.out), (p6_ hF.out), (p7_ hF.out), (fun _ => rfl), (fun _ => rfl), (fun _ => rfl), (p11_ hF.out), (p12_ hF.out), (p13_ hF.out), (p14_ hF.out), (p15_ hF.out), (p16_ hF.out), (p17_ hF.out), (p18_ hF.out), (p19_ hF.out), (p20_ hF.out), (p21_ hF.out), (p22_ hF.out), (p23_ hF.out), (p24_ hF.out), (p25_ hF.out), (p26_ hF.out), (p27_ hF.out), (fun _ => hw 7 (by decide)), (fun _ => rfl), (p30_ hF.out), (p31_ hF.out), (q32_ hF.out)⟩
            refine StepsF.cons (o := _) rfl (ws := []) (by kernel_rfl) (by decide) (fun d s b w hF hd hw K_ hK => ?_) ?_
            · have hB : Below W0.heap.size W0 w := (p0_ hF.out)
              have e18 : s 7 = (.slice (some ⟨X, 0, none⟩) k c3) := (p22_ hF.out) (by cases e : d 18 with | false => rfl | true => exact absurd ((p25_ hF.out) e) (by simp [hd]))
              dsimp only
              go_simp
              exact hK.out (ups (ups s 7 ((.slice (some ⟨X, 0, none⟩) k c3))) 108 (.slice (some ⟨X, 0, none⟩) k c3)) b _ ⟨hB, (p1_ hF.out), (p2_ hF.out), (p3_ hF.out), (p4_ hF.out), (p5_ hF.out), (p6_ hF.out), (p7_ hF.out), (p8_ hF.out), (p9_ hF.out), (p10_ hF.out), (fun _ => rfl), (p12_ hF.out), (p13_ hF.out), (p14_ hF.out), (p15_ hF.out), (p16_ hF.out), (p17_ hF.out), (p18_ hF.out), (p19_ hF.out), (p20_ hF.out), (fun h => absurd ((p25_ hF.out) h) (by simp [hd])), (fun _ => rfl), (p23_ hF.out), (p24_ hF.out), (fun _ => rfl), (p26_ hF.out), (p27_ hF.out), (p28_ hF.out), (p29_ hF.out), (p30_ hF.out), (p31_ hF.out), (q32_ hF.out)⟩
            refine StepsF.cons (o := _) rfl (ws := []) (by kernel_rfl) (by decide) (fun d s b w hF hd hw K_ hK => ?_) ?_
            · have hB : Below W0.heap.size W0 w := (p0_ hF.out)
              dsimp only
              go_simp
              exact hK.out (ups s 109 (.int .i64 k)) b _ ⟨hB, (p1_ hF.out), (p2_ hF.out), (p3_ hF.out), (p4_ hF.out), (p5_ hF.out), (p6_ hF.out), (p7_ hF.out), (p8_ hF.out), (p9_ hF.out), (p10_ hF.out), (p11_ hF.out), (fun _ => rfl), (p13_ hF.out), (p14_ hF.out), (p15_ hF.out), (p16_ hF.out), (p17_ hF.out), (p18_ hF.out), (p19_ hF.out), (p20_ hF.out), (p21_ hF.out), (p22_ hF.out), (p23_ hF.out), (p24_ hF.out), (p25_ hF.out), (p26_ hF.out), (p27_ hF.out), (p28_ hF.out), (p29_ hF.out), (p30_ hF.out), (p31_ hF.out), (q32_ hF.out)⟩
            refine StepsF.cons (o := _) rfl (ws := [11]) (by kernel_rfl) (by decide) (fun d s b w hF hd hw K_ hK => ?_) ?_
            · have hB : Below W0.heap.size W0 w := (p0_ hF.out)
              have e11 : s 109 = .int .i64 k := (p12_ hF.out) (hw 11 (by decide))
              dsimp only
              go_simp
              exact hK.out (ups (ups s 109 (.int .i64 k)) 110 (.int .i64 a16)) b _ ⟨hB, (p1_ hF.out), (p2_ hF.out), (p3_ hF.out), (p4_ hF.out), (p5_ hF.out), (p6_ hF.out), (p7_ hF.out), (p8_ hF.out), (p9_ hF.out), (p10_ hF.out), (p11_ hF.out), (fun _ => rfl), (fun _ => rfl), (p14_ hF.out), (p15_ hF.out), (p16_ hF.out), (p17_ hF.out), (p18_ hF.out), (p19_ hF.out), (p20_ hF.out), (p21_ hF.out), (p22_ hF.out), (p23_ hF.out), (p24_ hF.out), (p25_ hF.out), (p26_ hF.out), (p27_ hF.out), (p28_ hF.out), (p29_ hF.out), (p30_ hF.out), (p31_ hF.out), (q32_ hF.out)⟩
            refine StepsF.cons (o := _) rfl (ws := [10, 12]) (by kernel_rfl) (by decide) (fun d s b w hF hd hw K_ hK => ?_) ?_
            · have hB : Below W0.heap.size W0 w := (p0_ hF.out)
              have e10 : s 108 = .slice (some ⟨X, 0, none⟩) k c3 := (p11_ hF.out) (hw 10 (by decide))
              have e12 : s 110 = .int .i64 a16 := (p13_ hF.out) (hw 12 (by decide))
              dsimp only
              go_simp
              exact hK.out (ups (ups (ups s 108 (.slice (some ⟨X, 0, none⟩) k c3)) 110 (.int .i64 a16)) 111 (.pointer (some ⟨X, a16, none⟩))) b _ ⟨hB, (p1_ hF.out), (p2_ hF.out), (p3_ hF.out), (p4_ hF.out), (p5_ hF.out), (p6_ hF.out), (p7_ hF.out), (p8_ hF.out), (p9_ hF.out), (p10_ hF.out), (fun _ => rfl), (p12_ hF.out), (fun _ => rfl), (fun _ => rfl), (p15_ hF.out), (p16_ hF.out), (p17_ hF.out), (p18_ hF.out), (p19_ hF.out), (p20_ hF.out), (p21_ hF.out), (p22_ hF.out), (p23_ hF.out), (p24_ hF.out), (p25_ hF.out), (p26_ hF.out), (p27_ hF.out), (p28_ hF.out), (p29_ hF.out), (p30_ hF.out), (p31_ hF.out), (q32_ hF.out)⟩
            refine StepsF.cons (o := _) rfl (ws := [13]) (by kernel_rfl) (by decide) (fun d s b w hF hd hw K_ hK => ?_) ?_
            · have hB : Below W0.heap.size W0 w := (p0_ hF.out)
              have e13 : s 111 = .pointer (some ⟨X, a16, none⟩) := (p14_ hF.out) (hw 13 (by decide))
              dsimp only
              have h15 : d 15 = false := by cases e : d 15 with | false => rfl | true => exact absurd ((p30_ hF.out) e) (by simp [hd])
              have h16 : d 16 = false := by cases e : d 16 with | false => rfl | true => exact absurd ((p31_ hF.out) e) (by simp [h15])
              have h17 : d 17 = false := by cases e : d 17 with | false => rfl | true => exact absurd ((q32_ hF.out) e) (by simp [h16])
              have Sx := (row_has ((p19_ hF.out) h17)).1.cell a16 _ V16.out
              rw [Nat.zero_add] at Sx
              go_simp
              exact hK.out (ups (ups s 111 (.pointer (some ⟨X, a16, none⟩))) 112 (.int .u32 x16)) b _ ⟨hB, (p1_ hF.out), (p2_ hF.out), (p3_ hF.out), (p4_ hF.out), (p5_ hF.out), (p6_ hF.out), (p7_ hF.out), (p8_ hF.out), (p9_ hF.out), (p10_ hF.out), (p11_ hF.out), (p12_ hF.out), (p13_ hF.out), (fun _ => rfl), (fun _ => rfl), (p16_ hF.out), (p17_ hF.out), (p18_ hF.out), (p19_ hF.out), (p20_ hF.out), (p21_ hF.out), (p22_ hF.out), (p23_ hF.out), (p24_ hF.out), (p25_ hF.out), (p26_ hF.out), (p27_ hF.out), (p28_ hF.out), (p29_ hF.out), (fun _ => rfl), (p31_ hF.out), (q32_ hF.out)⟩
            refine StepsF.cons (o := _) rfl (ws := [9, 14]) (by kernel_rfl) (by decide) (fun d s b w hF hd hw K_ hK => ?_) ?_
            · have hB : Below W0.heap.size W0 w := (p0_ hF.out)
              have e9 : s 107 = .int .u32 p2 := (p10_ hF.out) (hw 9 (by decide))
              have e14 : s 112 = .int .u32 x16 := (p15_ hF.out) (hw 14 (by decide))
              dsimp only
              go_simp
              exact hK.out (ups (ups (ups s 107 (.int .u32 p2)) 112 (.int .u32 x16)) 113 (.int .u32 pz)) b _ ⟨hB, (p1_ hF.out), (p2_ hF.out), (p3_ hF.out), (p4_ hF.out), (p5_ hF.out), (p6_ hF.out), (p7_ hF.out), (p8_ hF.out), (p9_ hF.out), (fun _ => rfl), (p11_ hF.out), (p12_ hF.out), (p13_ hF.out), (p14_ hF.out), (fun _ => rfl), (fun _ => rfl), (p17_ hF.out), (fun h _ => absurd ((p31_ hF.out) h) (by simp [hd])), (p19_ hF.out), (p20_ hF.out), (p21_ hF.out), (p22_ hF.out), (p23_ hF.out), (p24_ hF.out), (p25_ hF.out), (p26_ hF.out), (p27_ hF.out), (p28_ hF.out), (fun _ => hw 9 (by decide)), (fun _ => hw 14 (by decide)), (fun _ => rfl), (q32_ hF.out)⟩
            refine StepsF.cons (o := _) rfl (ws := [15]) (by kernel_rfl) (by decide) (fun d s b w hF hd hw K_ hK => ?_) ?_
            · have hB : Below W0.heap.size W0 w := (p0_ hF.out)
              have e15 : s 113 = .int .u32 pz := (p16_ hF.out) (hw 15 (by decide))
              dsimp only
              go_simp
              exact hK.out (ups (ups s 113 (.int .u32 pz)) 114 (.slice (some ⟨w.heap.size, 0, none⟩) 1 1)) (ups b 16 w.heap.size) _ ⟨(hB.alloc hB.size _), (p1_ hF.out), (p2_ hF.out), (p3_ hF.out), (p4_ hF.out), (p5_ hF.out), (p6_ hF.out), (p7_ hF.out), (p8_ hF.out), (p9_ hF.out), (p10_ hF.out), (p11_ hF.out), (p12_ hF.out), (p13_ hF.out), (p14_ hF.out), (p15_ hF.out), (fun _ => rfl), (fun _ => ⟨rfl, hB.size⟩), (fun _ _ => Own.newAt rfl), (fun h0 => row_later ((p19_ hF.out) h0) (Below.al (Below.refl _ _))), (fun h0 => row_later ((p20_ hF.out) h0) (Below.al (Below.refl _ _))), (p21_ hF.out), (p22_ hF.out), (p23_ hF.out), (p24_ hF.out), (p25_ hF.out), (p26_ hF.out), (p27_ hF.out), (p28_ hF.out), (p29_ hF.out), (p30_ hF.out), (fun _ => hw 15 (by decide)), (fun _ => rfl)⟩
            refine StepsF.cons (o := _) rfl (ws := [0, 16]) (by kernel_rfl) (by decide) (fun d s b w hF hd hw K_ hK => ?_) ?_
            · have hB : Below W0.heap.size W0 w := (p0_ hF.out)
              have e18 : s 7 = (.slice (some ⟨X, 0, none⟩) k c3) := (p22_ hF.out) (by cases e : d 18 with | false => rfl | true => exact absurd ((p26_ hF.out) e) (by simp [hd]))
              have e0 : s 98 = .slice (some ⟨X, 0, none⟩) k c3 := (p1_ hF.out) (hw 0 (by decide))
              have e16 : s 114 = .slice (some ⟨(b 16), 0, none⟩) 1 1 := ((p17_ hF.out) (hw 16 (by decide))).1
              have le16 : W0.heap.size ≤ b 16 := ((p17_ hF.out) (hw 16 (by decide))).2
              have hi := HI.out
              have hz0 := HZ0.out
              have hz1 := HZ1.out
              have hz2 := HZ2.out
              have go := (p19_ hF.out) hd; have nb := (p18_ hF.out) (hw 16 (by decide)) hd
              refine step_append_to rfl (.tmp 98) (.tmp 114) 61 rfl 27 i0 (.int .u32 0) 1 4 Tryd.underlying61 hi hz0 hz1 hz2 rfl (by decide) W0.heap.size (.slice (some ⟨X, 0, none⟩) k c3) k (nums .u32 (sch bf k) k) ?a1 go ⟨b 16, 0, none⟩ 1 1 [.int .u32 pz] ?a2 rfl nb.news ?c2 ?c3 ?c4 hB.size ?_
              case a1 => exact e0
              case a2 => exact e16
              case c2 => simp [Value.oneCell']
              case c3 => unfold maxLen; omega
              case c4 => omega
              intro v' w' hown hg
              exact hK.out (ups s 115 (v')) b _ ⟨(Below.gro hB hg go (Nat.le_refl _)), (p1_ hF.out), (p2_ hF.out), (p3_ hF.out), (p4_ hF.out), (p5_ hF.out), (p6_ hF.out), (p7_ hF.out), (p8_ hF.out), (p9_ hF.out), (p10_ hF.out), (p11_ hF.out), (p12_ hF.out), (p13_ hF.out), (p14_ hF.out), (p15_ hF.out), (p16_ hF.out), (p17_ hF.out), (fun _ h => nomatch h), (fun h => nomatch h), (fun _ => hown), (fun h => absurd ((p26_ hF.out) h) (by simp [hd])), (p22_ hF.out), (p23_ hF.out), (p24_ hF.out), (p25_ hF.out), (fun _ => rfl), (p27_ hF.out), (p28_ hF.out), (p29_ hF.out), (p30_ hF.out), (p31_ hF.out), (fun _ => hw 16 (by decide))⟩
            refine StepsF.cons (o := _) rfl (ws := [17, 17, 0, 1, 2, 3, 4, 5, 6, 7, 8, 9, 10, 11, 12, 13, 14, 15, 16, 17]) (by kernel_rfl) (by decide) (fun d s b w hF hd hw K_ hK => ?_) ?_
            · have hB : Below W0.heap.size W0 w := (p0_ hF.out)
              have e0 : s 98 = .slice (some ⟨X, 0, none⟩) k c3 := (p1_ hF.out) (hw 0 (by decide))
              have e1 : s 99 = .int .u32 s1 := (p2_ hF.out) (hw 1 (by decide))
              have e2 : s 100 = .slice (some ⟨X, 0, none⟩) k c3 := (p3_ hF.out) (hw 2 (by decide))
              have e3 : s 101 = .int .i64 k := (p4_ hF.out) (hw 3 (by decide))
              have e4 : s 102 = .int .i64 a7 := (p5_ hF.out) (hw 4 (by decide))
              have e5 : s 103 = .pointer (some ⟨X, a7, none⟩) := (p6_ hF.out) (hw 5 (by decide))
              have e6 : s 104 = .int .u32 x7 := (p7_ hF.out) (hw 6 (by decide))
              have e7 : s 105 = .int .u32 p1 := (p8_ hF.out) (hw 7 (by decide))
              have e8 : s 106 = .int .u32 s0 := (p9_ hF.out) (hw 8 (by decide))
              have e9 : s 107 = .int .u32 p2 := (p10_ hF.out) (hw 9 (by decide))
              have e10 : s 108 = .slice (some ⟨X, 0, none⟩) k c3 := (p11_ hF.out) (hw 10 (by decide))
              have e11 : s 109 = .int .i64 k := (p12_ hF.out) (hw 11 (by decide))
              have e12 : s 110 = .int .i64 a16 := (p13_ hF.out) (hw 12 (by decide))
              have e13 : s 111 = .pointer (some ⟨X, a16, none⟩) := (p14_ hF.out) (hw 13 (by decide))
              have e14 : s 112 = .int .u32 x16 := (p15_ hF.out) (hw 14 (by decide))
              have e15 : s 113 = .int .u32 pz := (p16_ hF.out) (hw 15 (by decide))
              have e16 : s 114 = .slice (some ⟨(b 16), 0, none⟩) 1 1 := ((p17_ hF.out) (hw 16 (by decide))).1
              have le16 : W0.heap.size ≤ b 16 := ((p17_ hF.out) (hw 16 (by decide))).2
              dsimp only
              go_simp
              exact hK.out (ups (ups (ups (ups (ups (ups (ups (ups (ups (ups (ups (ups (ups (ups (ups (ups (ups (ups s 98 (.slice (some ⟨X, 0, none⟩) k c3)) 99 (.int .u32 s1)) 100 (.slice (some ⟨X, 0, none⟩) k c3)) 101 (.int .i64 k)) 102 (.int .i64 a7)) 103 (.pointer (some ⟨X, a7, none⟩))) 104 (.int .u32 x7)) 105 (.int .u32 p1)) 106 (.int .u32 s0)) 107 (.int .u32 p2)) 108 (.slice (some ⟨X, 0, none⟩) k c3)) 109 (.int .i64 k)) 110 (.int .i64 a16)) 111 (.pointer (some ⟨X, a16, none⟩))) 112 (.int .u32 x16)) 113 (.int .u32 pz)) 114 (.slice (some ⟨(b 16), 0, none⟩) 1 1)) 7 (s 115)) b _ ⟨hB, (fun _ => rfl), (fun _ => rfl), (fun _ => rfl), (fun _ => rfl), (fun _ => rfl), (fun _ => rfl), (fun _ => rfl), (fun _ => rfl), (fun _ => rfl), (fun _ => rfl), (fun _ => rfl), (fun _ => rfl), (fun _ => rfl), (fun _ => rfl), (fun _ => rfl), (fun _ => rfl), (fun _ => ⟨rfl, le16⟩), (p18_ hF.out), (p19_ hF.out), (p20_ hF.out), (fun _ => rfl), (fun h => nomatch h), (fun _ => hw 0 (by decide)), (fun _ => hw 2 (by decide)), (fun _ => hw 10 (by decide)), (fun _ => hw 17 (by decide)), (p27_ hF.out), (p28_ hF.out), (p29_ hF.out), (p30_ hF.out), (p31_ hF.out), (q32_ hF.out)⟩
            exact StepsF.nil
          intro d s b w7 hF hall
          replace hF := Lib.hid hF
          have hB : Below W0.heap.size W0 w7 := (p0_ hF.out)
          try dsimp only
          have e0 : s 98 = .slice (some ⟨X, 0, none⟩) k c3 := (p1_ hF.out) (hall 0 (by decide))
          have e1 : s 99 = .int .u32 s1 := (p2_ hF.out) (hall 1 (by decide))
          have e2 : s 100 = .slice (some ⟨X, 0, none⟩) k c3 := (p3_ hF.out) (hall 2 (by decide))
          have e3 : s 101 = .int .i64 k := (p4_ hF.out) (hall 3 (by decide))
          have e4 : s 102 = .int .i64 a7 := (p5_ hF.out) (hall 4 (by decide))
          have e5 : s 103 = .pointer (some ⟨X, a7, none⟩) := (p6_ hF.out) (hall 5 (by decide))
          have e6 : s 104 = .int .u32 x7 := (p7_ hF.out) (hall 6 (by decide))
          have e7 : s 105 = .int .u32 p1 := (p8_ hF.out) (hall 7 (by decide))
          have e8 : s 106 = .int .u32 s0 := (p9_ hF.out) (hall 8 (by decide))
          have e9 : s 107 = .int .u32 p2 := (p10_ hF.out) (hall 9 (by decide))
          have e10 : s 108 = .slice (some ⟨X, 0, none⟩) k c3 := (p11_ hF.out) (hall 10 (by decide))
          have e11 : s 109 = .int .i64 k := (p12_ hF.out) (hall 11 (by decide))
          have e12 : s 110 = .int .i64 a16 := (p13_ hF.out) (hall 12 (by decide))
          have e13 : s 111 = .pointer (some ⟨X, a16, none⟩) := (p14_ hF.out) (hall 13 (by decide))
          have e14 : s 112 = .int .u32 x16 := (p15_ hF.out) (hall 14 (by decide))
          have e15 : s 113 = .int .u32 pz := (p16_ hF.out) (hall 15 (by decide))
          have e16 : s 114 = .slice (some ⟨(b 16), 0, none⟩) 1 1 := ((p17_ hF.out) (hall 16 (by decide))).1
          have le16 : W0.heap.size ≤ b 16 := ((p17_ hF.out) (hall 16 (by decide))).2
          have f17 := (p20_ hF.out) (hall 17 (by decide))
          have e18 : s 7 = s 115 := (p21_ hF.out) (hall 18 (by decide))
          rw [e0, e1, e2, e3, e4, e5, e6, e7, e8, e9, e10, e11, e12, e13, e14, e15, e16, e18]
          clear hall hF e0 e1 e2 e3 e4 e5 e6 e7 e8 e9 e10 e11 e12 e13 e14 e15 e16 e18
          obtain ⟨nw, hz⟩ : ∃ x, x = b 16 := ⟨_, rfl⟩
          rw [← hz] at le16 ⊢
          clear hz
          obtain ⟨u2_, hz⟩ : ∃ x, x = s 115 := ⟨_, rfl⟩
          rw [← hz] at f17 ⊢
          clear hz
          clear d s b
          obtain ⟨p5, c5, rfl, _⟩ := row_form f17
          rw [XS.out] at f17
          have o6 := Lib.hid f17
          have o7 := Lib.hid hB
          clear f17 hB ROW HB HY XS
          go_wp2_with (fail)
          go_roundw
          case rel => (first | exact ⟨k + 1, _, _, Nat.le_succ_of_le H16.out, HLT.out, rfl, by go_num, o6, o7⟩ | ((repeat apply Exists.intro); exact ⟨⟨k + 1, _, _, Nat.le_succ_of_le H16.out, HLT.out, rfl, by go_num, o6, o7⟩, rfl⟩))
          case measure => (have := HLT.out; simp [intOf]; omega)
        · obtain rfl : k = 64 := by omega
          clear hlt hk hk16
          obtain ⟨X, c4, e4, hXb, hXl⟩ := row_blk ROW.out (by decide)
          cases e4
          have HX := Lib.hid (row_has ROW.out).1
          have hXb_ := Lib.hid hXb
          clear ROW hXb
          have HKk := Lib.hid (HK.out.later HB.out)
          have HHk := Lib.hid (HH.out.later HB.out)
          have HRk := Lib.hid (HR.out.later HB.out)
          clear HK HH HR
          have HK := HKk
          clear HKk
          have HH := HHk
          clear HHk
          have HR := HRk
          clear HRk
          have hB1 := Below.go hB0 HB.out
          obtain ⟨l1, l2, l3, l4⟩ := LT.out
          have hXW : W0.heap.size ≤ X := hXb_.out
          have nXH : X ≠ H := by omega
          have nHX := Ne.symm nXH
          have nXR : X ≠ R := by omega
          have nRX := Ne.symm nXR
          have nXKb : X ≠ Kb := by omega
          have nKbX := Ne.symm nXKb
          clear hB0 HB l1 l2 l3 l4 hXW hXb_
          have hB0 := hB1
          clear hB1
          go_upto_region 12 with fail
          refine wp_region_lit ?_
          refine wpList_load_mid rfl 28 _ rfl H 0 rfl (nums .u32 hf 8) _ HH.out.cell Tryd.underlying28 rfl (by kernel_rfl) ?_
          go_upto_region 13 with fail
          obtain ⟨W1, hW⟩ : ∃ W1, W1 = (wr.alloc (.cells (nums .u32 hf 8).toArray 28)) := ⟨_, rfl⟩
          have hBx : Below wr.heap.size wr W1 := hW ▸ (Below.al (Below.refl _ _))
          have HS : Hid (Own wr.heap.size (nums .u32 hf 8) W1) := Lib.hid (hW ▸ (show Own wr.heap.size (nums .u32 hf 8) (wr.alloc (.cells (nums .u32 hf 8).toArray 28)) from Own.newAt (by simp)))
          rw [← hW]
          clear hW
          obtain ⟨S, eS⟩ : ∃ X, X = wr.heap.size := ⟨_, rfl⟩
          rw [← eS] at HS ⊢
          have Sw : wr.heap.size ≤ S := by omega
          clear eS
          have nSKb : S ≠ Kb := by have := HK.out.lt; omega
          have nKbS : Kb ≠ S := Ne.symm nSKb
          have nSH : S ≠ H := by have := HH.out.lt; omega
          have nHS : H ≠ S := Ne.symm nSH
          have nSR : S ≠ R := by have := HR.out.lt; omega
          have nRS : R ≠ S := Ne.symm nSR
          have nSX : S ≠ X := by have := HX.out.lt; omega
          have nXS : X ≠ S := Ne.symm nSX
          have Sw2 : w.heap.size ≤ S := by have := hB0.size; omega
          clear Sw
          have Sw := Sw2
          clear Sw2
          have HKk := Lib.hid (HK.out.later hBx)
          have HHk := Lib.hid (HH.out.later hBx)
          have HRk := Lib.hid (HR.out.later hBx)
          have HXk := Lib.hid (HX.out.later hBx)
          clear HK HH HR HX
          have HK := HKk
          clear HKk
          have HH := HHk
          clear HHk
          have HR := HRk
          clear HRk
          have HX := HXk
          clear HXk
          have hB0n := Below.go hB0 hBx
          clear hB0 hBx
          have hB0 := hB0n
          clear hB0n
          clear HBk Bw nKbH nHKb nKbB nBKb nKbR nRKb nHB nBH nHR nRH nBR nRB nXKb nKbX nXH nHX nXR nRX LT
          obtain ⟨W_, eW⟩ : ∃ W_, sch bf 64 = W_ := ⟨_, rfl⟩
          have EW := Lib.hid eW
          rw [eW] at HX
          clear eW
          go_wp2_with (fail)
          go_loopw [13] (fun iv wr => ∃ (k : Nat), k ≤ 64 ∧ iv = .int .i64 k ∧ Hid (Below w.heap.size w wr) ∧ Hid (Own S (nums .u32 (rnds kf W_ hf k) 8) wr) ∧ Hid (Own R (nums .u32 (fun _ => 0) 8) wr) ∧ Hid (Own H (nums .u32 hf 8) wr) ∧ Hid (Own Kb (nums .u32 kf 64) wr) ∧ Hid (Has X 0 (nums .u32 W_ 64) wr)) (fun iv _ => (64 - (intOf iv).toNat))
          case atStart => exact ⟨0, Nat.zero_le _, rfl, Lib.hid hB0, HS, HR, HH, HK, HX⟩
          case round =>
            clear HS HR HH HK HX hB0
            obtain ⟨k, hk, rfl, HB, HS, HR, HH, HK, HX⟩ := hrel
            by_cases hlt : k < 64
            · have IR := Lib.hid (in_rnds (K := kf) (W := W_) IH.out k)
              have VK := HK.out.at k _ (nums_at .u32 kf hlt)
              have VW := HX.out.cell k _ (nums_at .u32 W_ hlt)
              rw [Nat.zero_add] at VW
              have SE := Lib.hid (shift_end kf W_ hf k)
              have Ia := Lib.hid (IR.out 0 (by decide)); have Va := Lib.hid (nums_at .u32 (rnds kf W_ hf k) (show 0 < 8 by decide))
              have Ib := Lib.hid (IR.out 1 (by decide)); have Vb := Lib.hid (nums_at .u32 (rnds kf W_ hf k) (show 1 < 8 by decide))
              have Ic := Lib.hid (IR.out 2 (by decide)); have Vc := Lib.hid (nums_at .u32 (rnds kf W_ hf k) (show 2 < 8 by decide))
              have Id := Lib.hid (IR.out 3 (by decide)); have Vd := Lib.hid (nums_at .u32 (rnds kf W_ hf k) (show 3 < 8 by decide))
              have Ie := Lib.hid (IR.out 4 (by decide)); have Ve := Lib.hid (nums_at .u32 (rnds kf W_ hf k) (show 4 < 8 by decide))
              have If := Lib.hid (IR.out 5 (by decide)); have Vf := Lib.hid (nums_at .u32 (rnds kf W_ hf k) (show 5 < 8 by decide))
              have Ig := Lib.hid (IR.out 6 (by decide)); have Vg := Lib.hid (nums_at .u32 (rnds kf W_ hf k) (show 6 < 8 by decide))
              have Il := Lib.hid (IR.out 7 (by decide)); have Vl := Lib.hid (nums_at .u32 (rnds kf W_ hf k) (show 7 < 8 by decide))
              obtain ⟨nx, enx⟩ : ∃ z, rnds kf W_ hf (k + 1) = z := ⟨_, rfl⟩
              rw [enx] at SE
              replace enx := Lib.hid enx
              generalize rnds kf W_ hf k = s_ at *
              obtain ⟨a, ea⟩ : ∃ z, s_ 0 = z := ⟨_, rfl⟩
              rw [ea] at Ia Va SE
              replace ea := Lib.hid ea
              obtain ⟨b, eb⟩ : ∃ z, s_ 1 = z := ⟨_, rfl⟩
              rw [eb] at Ib Vb SE
              replace eb := Lib.hid eb
              obtain ⟨c, ec⟩ : ∃ z, s_ 2 = z := ⟨_, rfl⟩
              rw [ec] at Ic Vc SE
              replace ec := Lib.hid ec
              obtain ⟨d, ed⟩ : ∃ z, s_ 3 = z := ⟨_, rfl⟩
              rw [ed] at Id Vd SE
              replace ed := Lib.hid ed
              obtain ⟨e, ee⟩ : ∃ z, s_ 4 = z := ⟨_, rfl⟩
              rw [ee] at Ie Ve SE
              replace ee := Lib.hid ee
              obtain ⟨f, ef⟩ : ∃ z, s_ 5 = z := ⟨_, rfl⟩
              rw [ef] at If Vf SE
              replace ef := Lib.hid ef
              obtain ⟨g, eg⟩ : ∃ z, s_ 6 = z := ⟨_, rfl⟩
              rw [eg] at Ig Vg SE
              replace eg := Lib.hid eg
              obtain ⟨l, el⟩ : ∃ z, s_ 7 = z := ⟨_, rfl⟩
              rw [el] at Il Vl SE
              replace el := Lib.hid el
              obtain ⟨kk, ek⟩ : ∃ z, kf k = z := ⟨_, rfl⟩
              obtain ⟨ww, ew⟩ : ∃ z, W_ k = z := ⟨_, rfl⟩
              rw [ek] at VK SE
              rw [ew] at VW SE
              obtain ⟨t1, et1⟩ : ∃ z, t1F e f g l kk ww = z := ⟨_, rfl⟩
              obtain ⟨t2, et2⟩ : ∃ z, t2F a b c = z := ⟨_, rfl⟩
              obtain ⟨n0, en0⟩ : ∃ z, add32 t1 t2 = z := ⟨_, rfl⟩
              obtain ⟨n4, en4⟩ : ∃ z, add32 d t1 = z := ⟨_, rfl⟩
              have SF := Lib.hid (SE.out t1 t2 n0 n4 et1 et2 en0 en4)
              clear ek ew SE IR
              obtain ⟨x1, f1⟩ : ∃ z, bits .xor .u32 (ror 6 e) (ror 11 e) = z := ⟨_, rfl⟩
              obtain ⟨x2, f2⟩ : ∃ z, bits .xor .u32 x1 (ror 25 e) = z := ⟨_, rfl⟩
              obtain ⟨p1, f3⟩ : ∃ z, (l + x2) % 4294967296 = z := ⟨_, rfl⟩
              obtain ⟨y1, f4⟩ : ∃ z, bits .and .u32 e f = z := ⟨_, rfl⟩
              obtain ⟨y2, f5⟩ : ∃ z, bits .xor .u32 4294967295 e = z := ⟨_, rfl⟩
              obtain ⟨y3, f6⟩ : ∃ z, bits .and .u32 y2 g = z := ⟨_, rfl⟩
              obtain ⟨y4, f7⟩ : ∃ z, bits .xor .u32 y1 y3 = z := ⟨_, rfl⟩
              obtain ⟨p2, f8⟩ : ∃ z, (p1 + y4) % 4294967296 = z := ⟨_, rfl⟩
              obtain ⟨p3_, f9⟩ : ∃ z, (p2 + kk) % 4294967296 = z := ⟨_, rfl⟩
              have f10 : (p3_ + ww) % 4294967296 = t1 := by rw [← f9, ← f8, ← f7, ← f6, ← f5, ← f4, ← f3, ← f2, ← f1]; exact et1
              obtain ⟨u1, g1⟩ : ∃ z, bits .xor .u32 (ror 2 a) (ror 13 a) = z := ⟨_, rfl⟩
              obtain ⟨u2, g2⟩ : ∃ z, bits .xor .u32 u1 (ror 22 a) = z := ⟨_, rfl⟩
              obtain ⟨v1, g3⟩ : ∃ z, bits .and .u32 a b = z := ⟨_, rfl⟩
              obtain ⟨v2, g4⟩ : ∃ z, bits .and .u32 a c = z := ⟨_, rfl⟩
              obtain ⟨v3, g5⟩ : ∃ z, bits .xor .u32 v1 v2 = z := ⟨_, rfl⟩
              obtain ⟨v4, g6⟩ : ∃ z, bits .and .u32 b c = z := ⟨_, rfl⟩
              obtain ⟨v5, g7⟩ : ∃ z, bits .xor .u32 v3 v4 = z := ⟨_, rfl⟩
              have g8 : (u2 + v5) % 4294967296 = t2 := by rw [← g7, ← g6, ← g5, ← g4, ← g3, ← g2, ← g1]; exact et2
              unfold add32 at en0 en4
              have h1 : IntKind.u32.wrap (l + x2) = p1 := (IntKind.wrap_u32' _).trans f3
              have h2 : IntKind.u32.wrap (p1 + y4) = p2 := (IntKind.wrap_u32' _).trans f8
              have h3 : IntKind.u32.wrap (p2 + kk) = p3_ := (IntKind.wrap_u32' _).trans f9
              have h4 : IntKind.u32.wrap (p3_ + ww) = t1 := (IntKind.wrap_u32' _).trans f10
              have h5 : IntKind.u32.wrap (u2 + v5) = t2 := (IntKind.wrap_u32' _).trans g8
              have h6 : IntKind.u32.wrap (t1 + t2) = n0 := (IntKind.wrap_u32' _).trans en0
              have h7 : IntKind.u32.wrap (d + t1) = n4 := (IntKind.wrap_u32' _).trans en4
              have hki : (k : Int) < 64 := by omega
              have k0 : (0 : Int) ≤ (k : Int) := by omega
              have wk : IntKind.i64.wrap ((k : Int) + 1) = (k : Int) + 1 := IntWalk.i64_in _ (by omega)
              have HLT := Lib.hid hlt
              clear hlt hk et1 et2
              have oS := HS.out
              have S0 := oS.at 0 _ Va.out
              have S1 := oS.at 1 _ Vb.out
              have S2 := oS.at 2 _ Vc.out
              have S3 := oS.at 3 _ Vd.out
              have S4 := oS.at 4 _ Ve.out
              have S5 := oS.at 5 _ Vf.out
              have S6 := oS.at 6 _ Vg.out
              have S7 := oS.at 7 _ Vl.out
              clear oS
              go_wp2_with (fail)
              go_quiet (first | (go_at_call 30; first | (with_reducible refine Calls.quiet_of (rrot6_any e Ie.out _)) | (with_reducible refine Calls.quiet_of (rrot11_any e Ie.out _)) | (with_reducible refine Calls.quiet_of (rrot25_any e Ie.out _))))
              have hBd : Below wr.heap.size wr (wr.drewN nq) := below_drewN (Below.refl _ _) _
              clear VK VW S0 S1 S2 S3 S4 S5 S6 S7
              have HSk := Lib.hid (HS.out.later hBd)
              have HRk := Lib.hid (HR.out.later hBd)
              have HHk := Lib.hid (HH.out.later hBd)
              have HKk := Lib.hid (HK.out.later hBd)
              have HXk := Lib.hid (HX.out.later hBd)
              clear HS HR HH HK HX
              have HS := HSk
              clear HSk
              have HR := HRk
              clear HRk
              have HH := HHk
              clear HHk
              have HK := HKk
              clear HKk
              have HX := HXk
              clear HXk
              have HBn := Lib.hid (Below.go HB.out hBd)
              clear HB hBd
              have HB := HBn
              clear HBn
              generalize wr.drewN nq = w3 at *
              have oS := HS.out
              have S0 := oS.at 0 _ Va.out
              have S1 := oS.at 1 _ Vb.out
              have S2 := oS.at 2 _ Vc.out
              clear oS
              go_wp2_with (fail)
              go_quiet (first | (go_at_call 30; first | (with_reducible refine Calls.quiet_of (rrot2_any a Ia.out _)) | (with_reducible refine Calls.quiet_of (rrot13_any a Ia.out _)) | (with_reducible refine Calls.quiet_of (rrot22_any a Ia.out _))))
              have hBd : Below w3.heap.size w3 (w3.drewN nq) := below_drewN (Below.refl _ _) _
              clear S0 S1 S2
              have HSk := Lib.hid (HS.out.later hBd)
              have HRk := Lib.hid (HR.out.later hBd)
              have HHk := Lib.hid (HH.out.later hBd)
              have HKk := Lib.hid (HK.out.later hBd)
              have HXk := Lib.hid (HX.out.later hBd)
              clear HS HR HH HK HX
              have HS := HSk
              clear HSk
              have HR := HRk
              clear HRk
              have HH := HHk
              clear HHk
              have HK := HKk
              clear HKk
              have HX := HXk
              clear HXk
              have HBn := Lib.hid (Below.go HB.out hBd)
              clear HB hBd
              have HB := HBn
              clear HBn
              generalize w3.drewN nq = w4 at *
              go_wp2_with (fail)
              rw [← shift_zero] at HS
              go_loopw [16] (fun iv wq => ∃ (m : Nat), m ≤ 7 ∧ iv = .int .i64 m ∧ Hid (Below w.heap.size w wq) ∧ Hid (Own S (nums .u32 (shiftF s_ m) 8) wq) ∧ Hid (Own R (nums .u32 (fun _ => 0) 8) wq) ∧ Hid (Own H (nums .u32 hf 8) wq) ∧ Hid (Own Kb (nums .u32 kf 64) wq) ∧ Hid (Has X 0 (nums .u32 W_ 64) wq)) (fun iv _ => (intOf iv).toNat)
              case atStart => exact ⟨7, Nat.le_refl _, rfl, HB, HS, HR, HH, HK, HX⟩
              case round =>
                clear HS HR HH HK HX HB
                obtain ⟨m, hm, rfl, HB, HS, HR, HH, HK, HX⟩ := hrel
                by_cases hm0 : 0 < m
                · obtain ⟨n, rfl⟩ : ∃ n, m = n + 1 := ⟨m - 1, by omega⟩
                  have hn : n < 7 := by omega
                  obtain ⟨M, eM⟩ : ∃ M, n + 1 = M := ⟨_, rfl⟩
                  have VN := HS.out.at n _ (nums_at .u32 _ (show n < 8 by omega))
                  have FN := HS.out.ok (n + 1) (by rw [nums_length]; omega)
                  have CN := HS.out.at (n + 1) _ (nums_at .u32 _ (show n + 1 < 8 by omega))
                  have Sl := HS.out.lt
                  rw [shift_low] at VN
                  obtain ⟨y, ey⟩ : ∃ y, s_ n = y := ⟨_, rfl⟩
                  have st := shift_step s_ n y ey.symm
                  have O1 := Lib.hid (st ▸ own_set (v := y) HS.out (show n + 1 < 8 by omega))
                  have O2 := Lib.hid (Own.far (c := S) (o := n + 1) (vs := [.int .u32 y]) HR.out nRS)
                  have O3 := Lib.hid (Own.far (c := S) (o := n + 1) (vs := [.int .u32 y]) HH.out nHS)
                  have O4 := Lib.hid (Own.far (c := S) (o := n + 1) (vs := [.int .u32 y]) HK.out nKbS)
                  have O5 := Lib.hid (Has.far (c := S) (o := n + 1) (vs := [.int .u32 y]) HX.out nXS)
                  have O6 := Lib.hid (Below.setCells HB.out Sw [.int .u32 y] (n + 1))
                  rw [eM] at FN CN O1 O2 O3 O4 O5 O6 ⊢
                  rw [ey] at VN
                  have g1_ : decide ((0 : Int) < (M : Int)) = true := decide_eq_true (by omega)
                  have g2_ : decide (0 < M) = true := decide_eq_true (by omega)
                  have sM : (M : Int) - 1 = (n : Int) := by omega
                  have wn : IntKind.i64.wrap (n : Int) = (n : Int) := IntWalk.i64_in _ (by omega)
                  have b1_ : (n : Int) < 8 := by omega
                  have b2_ : (M : Int) < 8 := by omega
                  have b3_ : (0 : Int) ≤ (n : Int) := by omega
                  have b4_ : (0 : Int) ≤ (M : Int) := by omega
                  have HN7 := Lib.hid hn
                  have EM := Lib.hid eM
                  clear hm hm0 hn eM ey st HB HS HR HH HK HX
                  go_wp2_with (fail)
                  go_roundw
                  case rel => (first | exact ⟨n, Nat.le_of_lt HN7.out, rfl, O6, O1, O2, O3, O4, O5⟩ | ((repeat apply Exists.intro); exact ⟨⟨n, Nat.le_of_lt HN7.out, rfl, O6, O1, O2, O3, O4, O5⟩, rfl⟩))
                  case measure => (have := EM.out; simp [intOf]; omega)
                · obtain rfl : m = 0 := by omega
                  clear hm hm0
                  have x4 := HS.out.at 4 _ (nums_at .u32 _ (show 4 < 8 by decide))
                  have f4 := HS.out.ok 4 (by rw [nums_length]; decide)
                  have x0_ := HS.out.at 0 _ (nums_at .u32 _ (show 0 < 8 by decide))
                  have f0 := HS.out.ok 0 (by rw [nums_length]; decide)
                  have Sl := HS.out.lt
                  rw [show shiftF s_ 0 4 = d from ed.out] at x4
                  have O1 := Lib.hid (SF.out ▸ own_set (i := 0) (v := n0) (own_set (i := 4) (v := n4) HS.out (by decide)) (by decide))
                  have O2 := Lib.hid (Own.far (c := S) (o := 0) (vs := [.int .u32 n0]) (Own.far (c := S) (o := 4) (vs := [.int .u32 n4]) HR.out nRS) nRS)
                  have O3 := Lib.hid (Own.far (c := S) (o := 0) (vs := [.int .u32 n0]) (Own.far (c := S) (o := 4) (vs := [.int .u32 n4]) HH.out nHS) nHS)
                  have O4 := Lib.hid (Own.far (c := S) (o := 0) (vs := [.int .u32 n0]) (Own.far (c := S) (o := 4) (vs := [.int .u32 n4]) HK.out nKbS) nKbS)
                  have O5 := Lib.hid (Has.far (c := S) (o := 0) (vs := [.int .u32 n0]) (Has.far (c := S) (o := 4) (vs := [.int .u32 n4]) HX.out nXS) nXS)
                  have O6 := Lib.hid (Below.setCells (Below.setCells HB.out Sw [.int .u32 n4] 4) Sw [.int .u32 n0] 0)
                  clear HB HS HR HH HK HX SF
                  go_wp2_with (fail)
                  go_roundw
                  case rel => (first | exact ⟨k + 1, HLT.out, by go_num, O6, by rw [enx.out]; exact O1, O2, O3, O4, O5⟩ | ((repeat apply Exists.intro); exact ⟨⟨k + 1, HLT.out, by go_num, O6, by rw [enx.out]; exact O1, O2, O3, O4, O5⟩, rfl⟩))
                  case measure => (have := HLT.out; simp [intOf]; omega)
            · obtain rfl : k = 64 := by omega
              clear hlt hk HX HK
              have HX : Hid (∀ j, add32 (rnds kf W_ hf 64 j) (hf j) = compF kf hf bf j) := Lib.hid fun j => by
                rw [← EW.out]; rfl
              generalize rnds kf W_ hf 64 = sf at *
              obtain ⟨cf, ecf⟩ : ∃ cf, compF kf hf bf = cf := ⟨_, rfl⟩
              rw [ecf] at HX
              replace ecf := Lib.hid ecf
              rw [← half_zero .u32 cf sf 8] at HS
              go_wp2_with (fail)
              go_loopw [17] (fun iv wr => ∃ (k : Nat), k ≤ 8 ∧ iv = .int .i64 k ∧ Hid (Below w.heap.size w wr) ∧ Hid (Own R (nums .u32 (fun _ => 0) 8) wr) ∧ Hid (Own H (nums .u32 hf 8) wr) ∧ Hid (Own S (nums .u32 (halfF cf sf k) 8) wr)) (fun iv _ => (8 - (intOf iv).toNat))
              case atStart => exact ⟨0, Nat.zero_le _, rfl, HB, HR, HH, HS⟩
              case round =>
                clear HS HR HH HB
                obtain ⟨k, hk, rfl, HB, HR, HH, HS⟩ := hrel
                by_cases hlt : k < 8
                · have VS := HS.out.at k _ (nums_at .u32 _ hlt)
                  rw [half_at] at VS
                  have E := Lib.hid (HX.out k)
                  obtain ⟨y, ey⟩ : ∃ z, sf k = z := ⟨_, rfl⟩
                  obtain ⟨x, ex⟩ : ∃ z, hf k = z := ⟨_, rfl⟩
                  have XV := Lib.hid (nums_at .u32 hf hlt)
                  rw [ex] at XV E; rw [ey] at VS E
                  obtain ⟨z, ez⟩ : ∃ z, add32 y x = z := ⟨_, rfl⟩
                  rw [ez] at E
                  have h1 : IntKind.u32.wrap (y + x) = z := (IntKind.wrap_u32' _).trans ez
                  unfold add32 at ez
                  have hki : (k : Int) < 8 := by omega
                  have k0 : (0 : Int) ≤ (k : Int) := by omega
                  have wk : IntKind.i64.wrap ((k : Int) + 1) = (k : Int) + 1 := IntWalk.i64_in _ (by omega)
                  have HLT := Lib.hid hlt
                  have EY := Lib.hid ey
                  clear hlt hk ex ey
                  go_upto_region 27 with fail
                  refine wp_region_fun 10 (by kernel_rfl) (by kernel_rfl) rfl (fun s b => ⟨#[(.agg (nums .u32 kf 64).toArray), (.agg (nums .u32 hf 8).toArray), (.agg (nums .u8 bf 64).toArray), .pointer (some ⟨Kb, 0, none⟩), .pointer (some ⟨H, 0, none⟩), .pointer (some ⟨B, 0, none⟩), .pointer (some ⟨R, 0, none⟩), .slice (some ⟨X, 0, none⟩) 64 c3, .int .i64 16, .int .i64 64, u10, u11, .pointer (some ⟨S, 0, none⟩), .int .i64 ((64 : Nat) : Int), u14, u15, u16, .int .i64 k, .int .i64 16, .bool false, u20, u21, u22, u23, u24, u25, u26, u27, u28, u29, u30, u31, u32, u33, u34, u35, u36, u37, u38, u39, u40, u41, u42, u43, u44, u45, u46, u47, u48, u49, u50, u51, u52, u53, .int .i64 64, .bool false, u56, u57, u58, u59, u60, u61, u62, u63, u64, u65, u66, u67, u68, u69, u70, u71, u72, u73, u74, u75, u76, u77, u78, u79, u80, u81, u82, u83, u84, u85, u86, u87, u88, u89, u90, u91, u92, u93, u94, u95, u96, u97, u98, u99, u100, u101, u102, u103, u104, u105, u106, u107, u108, u109, u110, u111, u112, u113, u114, u115, (.agg (nums .u32 hf 8).toArray), .int .i64 ((64 : Nat) : Int), .bool false, u119, u120, u121, u122, u123, u124, u125, u126, u127, u128, u129, u130, u131, u132, u133, u134, u135, u136, u137, u138, u139, u140, u141, u142, u143, u144, u145, u146, u147, u148, u149, u150, u151, u152, u153, u154, u155, u156, u157, u158, u159, u160, u161, u162, u163, u164, u165, u166, u167, u168, u169, u170, u171, u172, u173, u174, u175, u176, u177, u178, u179, u180, u181, u182, u183, u184, u185, u186, u187, u188, u189, u190, u191, u192, u193, u194, u195, u196, u197, u198, u199, u200, u201, u202, u203, u204, .int .i64 k, .bool true, u207, u208, s 209, s 210, s 211, s 212, s 213, s 214, s 215, s 216, s 217, undef], []⟩) (fun d s b w => (d 9 = false → Below wr.heap.size wr w) ∧ (d 0 = true → s 209 = .int .i64 k) ∧ (d 1 = true → s 210 = .int .i64 k) ∧ (d 2 = true → s 211 = .pointer (some ⟨S, k, none⟩)) ∧ (d 3 = true → s 212 = .int .u32 y) ∧ (d 4 = true → s 213 = .int .i64 k) ∧ (d 5 = true → s 214 = .pointer (some ⟨H, k, none⟩)) ∧ (d 6 = true → s 215 = .int .u32 x) ∧ (d 7 = true → s 216 = .int .u32 z) ∧ (d 8 = true → s 217 = .pointer (some ⟨S, k, none⟩)) ∧ (d 9 = true → ∀ j, j < 9 → d j = true) ∧ (d 9 = true → ∃ w2, Below wr.heap.size wr w2 ∧ w = w2.setCells S k [.int .u32 z])) rfl ?h0w8 (?stw8 : StepsF _ _ _ _ 10 _ _ [0, 1, 2, 3, 4, 5, 6, 7, 8, 9]) ?dnw8
                  case h0w8 => exact ⟨fun _ => Below.drew (Below.refl _ _), (fun h => nomatch h), (fun h => nomatch h), (fun h => nomatch h), (fun h => nomatch h), (fun h => nomatch h), (fun h => nomatch h), (fun h => nomatch h), (fun h => nomatch h), (fun h => nomatch h), (fun h => nomatch h), (fun h => nomatch h)⟩
                  case stw8 =>
                    refine StepsF.cons (o := _) rfl (ws := []) (by kernel_rfl) (by decide) (fun d s b w hF hd hw K_ hK => ?_) ?_
                    · have hk : d 9 = false := by cases e : d 9 with | false => rfl | true => exact absurd ((p10_ hF.out) e 0 (by decide)) (by simp [hd])
                      have hB : Below wr.heap.size wr w := (p0_ hF.out) hk
                      dsimp only
                      go_simp
                      exact hK.out (ups s 209 (.int .i64 k)) b _ ⟨(fun _ => hB), (fun _ => rfl), (p2_ hF.out), (p3_ hF.out), (p4_ hF.out), (p5_ hF.out), (p6_ hF.out), (p7_ hF.out), (p8_ hF.out), (p9_ hF.out), (fun h => absurd ((p10_ hF.out) h 0 (by decide)) (by simp [hd])), (fun h => absurd ((p10_ hF.out) h 0 (by decide)) (by simp [hd]))⟩
                    refine StepsF.cons (o := _) rfl (ws := []) (by kernel_rfl) (by decide) (fun d s b w hF hd hw K_ hK => ?_) ?_
                    · have hk : d 9 = false := by cases e : d 9 with | false => rfl | true => exact absurd ((p10_ hF.out) e 1 (by decide)) (by simp [hd])
                      have hB : Below wr.heap.size wr w := (p0_ hF.out) hk
                      dsimp only
                      go_simp
                      exact hK.out (ups s 210 (.int .i64 k)) b _ ⟨(fun _ => hB), (p1_ hF.out), (fun _ => rfl), (p3_ hF.out), (p4_ hF.out), (p5_ hF.out), (p6_ hF.out), (p7_ hF.out), (p8_ hF.out), (p9_ hF.out), (fun h => absurd ((p10_ hF.out) h 1 (by decide)) (by simp [hd])), (fun h => absurd ((p10_ hF.out) h 1 (by decide)) (by simp [hd]))⟩
                    refine StepsF.cons (o := _) rfl (ws := [1]) (by kernel_rfl) (by decide) (fun d s b w hF hd hw K_ hK => ?_) ?_
                    · have hk : d 9 = false := by cases e : d 9 with | false => rfl | true => exact absurd ((p10_ hF.out) e 2 (by decide)) (by simp [hd])
                      have hB : Below wr.heap.size wr w := (p0_ hF.out) hk
                      have e1 : s 210 = .int .i64 k := (p2_ hF.out) (hw 1 (by decide))
                      dsimp only
                      go_simp
                      exact hK.out (ups (ups s 210 (.int .i64 k)) 211 (.pointer (some ⟨S, k, none⟩))) b _ ⟨(fun _ => hB), (p1_ hF.out), (fun _ => rfl), (fun _ => rfl), (p4_ hF.out), (p5_ hF.out), (p6_ hF.out), (p7_ hF.out), (p8_ hF.out), (p9_ hF.out), (fun h => absurd ((p10_ hF.out) h 2 (by decide)) (by simp [hd])), (fun h => absurd ((p10_ hF.out) h 2 (by decide)) (by simp [hd]))⟩
                    refine StepsF.cons (o := _) rfl (ws := [2]) (by kernel_rfl) (by decide) (fun d s b w hF hd hw K_ hK => ?_) ?_
                    · have hk : d 9 = false := by cases e : d 9 with | false => rfl | true => exact absurd ((p10_ hF.out) e 3 (by decide)) (by simp [hd])
                      have hB : Below wr.heap.size wr w := (p0_ hF.out) hk
                      have e2 : s 211 = .pointer (some ⟨S, k, none⟩) := (p3_ hF.out) (hw 2 (by decide))
                      dsimp only
                      have oS := HS.out.later hB
                      have Sx := oS.at k _ (nums_at .u32 _ HLT.out)
                      rw [half_at, EY.out] at Sx
                      clear oS
                      go_simp
                      exact hK.out (ups (ups s 211 (.pointer (some ⟨S, k, none⟩))) 212 (.int .u32 y)) b _ ⟨(fun _ => hB), (p1_ hF.out), (p2_ hF.out), (fun _ => rfl), (fun _ => rfl), (p5_ hF.out), (p6_ hF.out), (p7_ hF.out), (p8_ hF.out), (p9_ hF.out), (fun h => absurd ((p10_ hF.out) h 3 (by decide)) (by simp [hd])), (fun h => absurd ((p10_ hF.out) h 3 (by decide)) (by simp [hd]))⟩
                    refine StepsF.cons (o := _) rfl (ws := []) (by kernel_rfl) (by decide) (fun d s b w hF hd hw K_ hK => ?_) ?_
                    · have hk : d 9 = false := by cases e : d 9 with | false => rfl | true => exact absurd ((p10_ hF.out) e 4 (by decide)) (by simp [hd])
                      have hB : Below wr.heap.size wr w := (p0_ hF.out) hk
                      dsimp only
                      go_simp
                      exact hK.out (ups s 213 (.int .i64 k)) b _ ⟨(fun _ => hB), (p1_ hF.out), (p2_ hF.out), (p3_ hF.out), (p4_ hF.out), (fun _ => rfl), (p6_ hF.out), (p7_ hF.out), (p8_ hF.out), (p9_ hF.out), (fun h => absurd ((p10_ hF.out) h 4 (by decide)) (by simp [hd])), (fun h => absurd ((p10_ hF.out) h 4 (by decide)) (by simp [hd]))⟩
                    refine StepsF.cons (o := _) rfl (ws := [4]) (by kernel_rfl) (by decide) (fun d s b w hF hd hw K_ hK => ?_) ?_
                    · have hk : d 9 = false := by cases e : d 9 with | false => rfl | true => exact absurd ((p10_ hF.out) e 5 (by decide)) (by simp [hd])
                      have hB : Below wr.heap.size wr w := (p0_ hF.out) hk
                      have e4 : s 213 = .int .i64 k := (p5_ hF.out) (hw 4 (by decide))
                      dsimp only
                      go_simp
                      exact hK.out (ups (ups s 213 (.int .i64 k)) 214 (.pointer (some ⟨H, k, none⟩))) b _ ⟨(fun _ => hB), (p1_ hF.out), (p2_ hF.out), (p3_ hF.out), (p4_ hF.out), (fun _ => rfl), (fun _ => rfl), (p7_ hF.out), (p8_ hF.out), (p9_ hF.out), (fun h => absurd ((p10_ hF.out) h 5 (by decide)) (by simp [hd])), (fun h => absurd ((p10_ hF.out) h 5 (by decide)) (by simp [hd]))⟩
                    refine StepsF.cons (o := _) rfl (ws := [5]) (by kernel_rfl) (by decide) (fun d s b w hF hd hw K_ hK => ?_) ?_
                    · have hk : d 9 = false := by cases e : d 9 with | false => rfl | true => exact absurd ((p10_ hF.out) e 6 (by decide)) (by simp [hd])
                      have hB : Below wr.heap.size wr w := (p0_ hF.out) hk
                      have e5 : s 214 = .pointer (some ⟨H, k, none⟩) := (p6_ hF.out) (hw 5 (by decide))
                      dsimp only
                      have oH := HH.out.later hB
                      have Hx := oH.at k _ XV.out
                      clear oH
                      go_simp
                      exact hK.out (ups (ups s 214 (.pointer (some ⟨H, k, none⟩))) 215 (.int .u32 x)) b _ ⟨(fun _ => hB), (p1_ hF.out), (p2_ hF.out), (p3_ hF.out), (p4_ hF.out), (p5_ hF.out), (fun _ => rfl), (fun _ => rfl), (p8_ hF.out), (p9_ hF.out), (fun h => absurd ((p10_ hF.out) h 6 (by decide)) (by simp [hd])), (fun h => absurd ((p10_ hF.out) h 6 (by decide)) (by simp [hd]))⟩
                    refine StepsF.cons (o := _) rfl (ws := [3, 6]) (by kernel_rfl) (by decide) (fun d s b w hF hd hw K_ hK => ?_) ?_
                    · have hk : d 9 = false := by cases e : d 9 with | false => rfl | true => exact absurd ((p10_ hF.out) e 7 (by decide)) (by simp [hd])
                      have hB : Below wr.heap.size wr w := (p0_ hF.out) hk
                      have e3 : s 212 = .int .u32 y := (p4_ hF.out) (hw 3 (by decide))
                      have e6 : s 215 = .int .u32 x := (p7_ hF.out) (hw 6 (by decide))
                      dsimp only
                      go_simp
                      exact hK.out (ups (ups (ups s 212 (.int .u32 y)) 215 (.int .u32 x)) 216 (.int .u32 z)) b _ ⟨(fun _ => hB), (p1_ hF.out), (p2_ hF.out), (p3_ hF.out), (fun _ => rfl), (p5_ hF.out), (p6_ hF.out), (fun _ => rfl), (fun _ => rfl), (p9_ hF.out), (fun h => absurd ((p10_ hF.out) h 7 (by decide)) (by simp [hd])), (fun h => absurd ((p10_ hF.out) h 7 (by decide)) (by simp [hd]))⟩
                    refine StepsF.cons (o := _) rfl (ws := [0, 0, 1, 2, 3, 4, 5, 6, 7]) (by kernel_rfl) (by decide) (fun d s b w hF hd hw K_ hK => ?_) ?_
                    · have hk : d 9 = false := by cases e : d 9 with | false => rfl | true => exact absurd ((p10_ hF.out) e 8 (by decide)) (by simp [hd])
                      have hB : Below wr.heap.size wr w := (p0_ hF.out) hk
                      have e0 : s 209 = .int .i64 k := (p1_ hF.out) (hw 0 (by decide))
                      have e1 : s 210 = .int .i64 k := (p2_ hF.out) (hw 1 (by decide))
                      have e2 : s 211 = .pointer (some ⟨S, k, none⟩) := (p3_ hF.out) (hw 2 (by decide))
                      have e3 : s 212 = .int .u32 y := (p4_ hF.out) (hw 3 (by decide))
                      have e4 : s 213 = .int .i64 k := (p5_ hF.out) (hw 4 (by decide))
                      have e5 : s 214 = .pointer (some ⟨H, k, none⟩) := (p6_ hF.out) (hw 5 (by decide))
                      have e6 : s 215 = .int .u32 x := (p7_ hF.out) (hw 6 (by decide))
                      have e7 : s 216 = .int .u32 z := (p8_ hF.out) (hw 7 (by decide))
                      dsimp only
                      go_simp
                      exact hK.out (ups (ups (ups (ups (ups (ups (ups (ups (ups s 209 (.int .i64 k)) 210 (.int .i64 k)) 211 (.pointer (some ⟨S, k, none⟩))) 212 (.int .u32 y)) 213 (.int .i64 k)) 214 (.pointer (some ⟨H, k, none⟩))) 215 (.int .u32 x)) 216 (.int .u32 z)) 217 (.pointer (some ⟨S, k, none⟩))) b _ ⟨(fun _ => hB), (fun _ => rfl), (fun _ => rfl), (fun _ => rfl), (fun _ => rfl), (fun _ => rfl), (fun _ => rfl), (fun _ => rfl), (fun _ => rfl), (fun _ => rfl), (fun h => absurd ((p10_ hF.out) h 8 (by decide)) (by simp [hd])), (fun h => absurd ((p10_ hF.out) h 8 (by decide)) (by simp [hd]))⟩
                    refine StepsF.cons (o := _) rfl (ws := [8, 7, 0, 1, 2, 3, 4, 5, 6, 7]) (by kernel_rfl) (by decide) (fun d s b w hF hd hw K_ hK => ?_) ?_
                    · have hB : Below wr.heap.size wr w := (p0_ hF.out) hd
                      have e0 : s 209 = .int .i64 k := (p1_ hF.out) (hw 0 (by decide))
                      have e1 : s 210 = .int .i64 k := (p2_ hF.out) (hw 1 (by decide))
                      have e2 : s 211 = .pointer (some ⟨S, k, none⟩) := (p3_ hF.out) (hw 2 (by decide))
                      have e3 : s 212 = .int .u32 y := (p4_ hF.out) (hw 3 (by decide))
                      have e4 : s 213 = .int .i64 k := (p5_ hF.out) (hw 4 (by decide))
                      have e5 : s 214 = .pointer (some ⟨H, k, none⟩) := (p6_ hF.out) (hw 5 (by decide))
                      have e6 : s 215 = .int .u32 x := (p7_ hF.out) (hw 6 (by decide))
                      have e7 : s 216 = .int .u32 z := (p8_ hF.out) (hw 7 (by decide))
                      have e8 : s 217 = .pointer (some ⟨S, k, none⟩) := (p9_ hF.out) (hw 8 (by decide))
                      dsimp only
                      have oz := HS.out.later hB
                      have fr := oz.ok k (by rw [nums_length]; exact HLT.out)
                      have Sc := oz.at k _ (nums_at .u32 _ HLT.out)
                      have oX := HS.out.later hB
                      clear oX
                      go_simp
                      exact hK.out (ups (ups (ups (ups (ups (ups (ups (ups (ups s 209 (.int .i64 k)) 210 (.int .i64 k)) 211 (.pointer (some ⟨S, k, none⟩))) 212 (.int .u32 y)) 213 (.int .i64 k)) 214 (.pointer (some ⟨H, k, none⟩))) 215 (.int .u32 x)) 216 (.int .u32 z)) 217 (.pointer (some ⟨S, k, none⟩))) b _ ⟨(fun h => nomatch h), (fun _ => rfl), (fun _ => rfl), (fun _ => rfl), (fun _ => rfl), (fun _ => rfl), (fun _ => rfl), (fun _ => rfl), (fun _ => rfl), (fun _ => rfl), (fun _ j hj => by have hj2 := hw j (by simp; omega); simp [upd, hj2]), (fun _ => ⟨w, hB, rfl⟩)⟩
                    exact StepsF.nil
                  intro d s b w8 hF hall
                  replace hF := Lib.hid hF
                  obtain ⟨w8, hB, rfl⟩ := (q11_ hF.out) (hall 9 (by decide))
                  try dsimp only
                  have e0 : s 209 = .int .i64 k := (p1_ hF.out) (hall 0 (by decide))
                  have e1 : s 210 = .int .i64 k := (p2_ hF.out) (hall 1 (by decide))
                  have e2 : s 211 = .pointer (some ⟨S, k, none⟩) := (p3_ hF.out) (hall 2 (by decide))
                  have e3 : s 212 = .int .u32 y := (p4_ hF.out) (hall 3 (by decide))
                  have e4 : s 213 = .int .i64 k := (p5_ hF.out) (hall 4 (by decide))
                  have e5 : s 214 = .pointer (some ⟨H, k, none⟩) := (p6_ hF.out) (hall 5 (by decide))
                  have e6 : s 215 = .int .u32 x := (p7_ hF.out) (hall 6 (by decide))
                  have e7 : s 216 = .int .u32 z := (p8_ hF.out) (hall 7 (by decide))
                  have e8 : s 217 = .pointer (some ⟨S, k, none⟩) := (p9_ hF.out) (hall 8 (by decide))
                  rw [e0, e1, e2, e3, e4, e5, e6, e7, e8]
                  clear hall hF e0 e1 e2 e3 e4 e5 e6 e7 e8
                  clear d s b
                  have e1 := half_step .u32 cf sf k 8 z E.out
                  have O1 := Lib.hid (e1 ▸ own_set (v := z) (HS.out.later hB) HLT.out)
                  have O2 := Lib.hid (Own.far (c := S) (o := k) (vs := [.int .u32 z]) (HR.out.later hB) nRS)
                  have O3 := Lib.hid (Own.far (c := S) (o := k) (vs := [.int .u32 z]) (HH.out.later hB) nHS)
                  have O4 := Lib.hid (Below.setCells (Below.go HB.out hB) Sw [.int .u32 z] k)
                  clear E e1 HS HR HH HB hB
                  go_wp2_with (fail)
                  go_roundw
                  case rel => (first | exact ⟨k + 1, HLT.out, by go_num, O4, O2, O3, O1⟩ | ((repeat apply Exists.intro); exact ⟨⟨k + 1, HLT.out, by go_num, O4, O2, O3, O1⟩, rfl⟩))
                  case measure => (have := HLT.out; simp [intOf]; omega)
                · obtain rfl : k = 8 := by omega
                  clear hlt hk
                  rw [half_all] at HS
                  go_upto_region 28 with fail
                  have hB0 := HB.out
                  refine wp_region_lit ?_
                  refine wpList_load_mid rfl 28 _ rfl S 0 rfl (nums .u32 cf 8) _ HS.out.cell Tryd.underlying28 rfl (by kernel_rfl) ?_
                  refine wpList_store_mid rfl 28 _ _ rfl R 0 (nums .u32 cf 8).toArray rfl rfl HR.out.free (by kernel_rfl) (nums_all _ _ _) ?_
                  change wpList _ _ _ [] _ (wr.setCells R 0 (nums .u32 cf 8))
                  have HRn : Hid (Own R (nums .u32 cf 8) (wr.setCells R 0 (nums .u32 cf 8))) := Lib.hid (Own.store HR.out (by simp [nums_length]))
                  have HSn : Hid (Own S (nums .u32 cf 8) (wr.setCells R 0 (nums .u32 cf 8))) := Lib.hid (Own.far (o := 0) (vs := (nums .u32 cf 8)) HS.out nSR)
                  have hB0n : Below w.heap.size w (wr.setCells R 0 (nums .u32 cf 8)) := Below.setCells hB0 Rw (nums .u32 cf 8) 0
                  clear HR HS hB0
                  generalize (wr.setCells R 0 (nums .u32 cf 8)) = wz at *
                  have HR := HRn
                  clear HRn
                  have HS := HSn
                  clear HSn
                  have hB0 := hB0n
                  clear hB0n
                  go_wp2_with (fail)
                  rw [ecf.out]
                  have hL := run_loadVar_mid (P := Tryd.prog) _ R 0 28 (nums .u32 cf 8) _ HR.out.cell Tryd.underlying28 rfl (by kernel_rfl)
                  exact bodyPost_ret (v := .agg (nums .u32 cf 8).toArray) (res_cell Tryd.results18 rfl hL) rfl ⟨rfl, hB0⟩
end Go.Proofs.YtajejlaoompieaaDoor
