/- sha.schedule. -/
import Derived.Test.YtajejlaoompieaaDoorHB
import Derived.Test.YtajejlaoompieaaDoorCJ
import Derived.Lib.Hide
import Derived.LoopN
import Derived.LoopTactic
import Derived.Deep.Onto
import Derived.Deep.QuietTactic
import Derived.BigQuiet
import Derived.Deep.WholeRow
namespace Go.Proofs.YtajejlaoompieaaDoor
set_option linter.unusedVariables false
set_option maxRecDepth 2000
set_option linter.unusedSimpArgs false
open Go.RowKit
theorem conv_u8_ (b : Int) (h : inB b) : b % 4294967296 = b ∧ IntKind.u32.wrap b = b := by
  unfold inB at h
  rw [IntKind.wrap_u32']
  omega
theorem word_be (b0 b1 b2 b3 : Nat) (h0 : b0 < 256) (h1 : b1 < 256) (h2 : b2 < 256) (h3 : b3 < 256) :
    bits .or .u32 (bits .or .u32 (bits .or .u32 ((b0 : Int) * 16777216 % 4294967296) ((b1 : Int) * 65536 % 4294967296)) ((b2 : Int) * 256 % 4294967296)) (b3 : Int) = ((16777216 * b0 + 65536 * b1 + 256 * b2 + b3 : Nat) : Int) := by
  have e1 : (b2 : Int) * 256 % 4294967296 = ((256 * b2 : Nat) : Int) := by omega
  have e2 : (b1 : Int) * 65536 % 4294967296 = ((65536 * b1 : Nat) : Int) := by omega
  have e3 : (b0 : Int) * 16777216 % 4294967296 = ((16777216 * b0 : Nat) : Int) := by omega
  rw [e1, e2, e3, u32_or_nat _ _ (by omega) (by omega)]
  have f1 : 16777216 * b0 ||| 65536 * b1 = 16777216 * b0 + 65536 * b1 := by rw [nat_join 24 _ _ (by omega) (by omega)]
  rw [f1, u32_or_nat _ _ (by omega) (by omega)]
  have f2 : 16777216 * b0 + 65536 * b1 ||| 256 * b2 = 16777216 * b0 + 65536 * b1 + 256 * b2 := by rw [nat_join 16 _ _ (by omega) (by omega)]
  rw [f2, u32_or_nat _ _ (by omega) (by omega)]
  have f3 : 16777216 * b0 + 65536 * b1 + 256 * b2 ||| b3 = 16777216 * b0 + 65536 * b1 + 256 * b2 + b3 := by rw [nat_join 8 _ _ (by omega) (by omega)]
  rw [f3]
theorem word_be' (b0 b1 b2 b3 : Int) (h0 : inB b0) (h1 : inB b1) (h2 : inB b2) (h3 : inB b3) :
    bits .or .u32 (bits .or .u32 (bits .or .u32 (b0 * 16777216 % 4294967296) (b1 * 65536 % 4294967296)) (b2 * 256 % 4294967296)) b3 = 16777216 * b0 + 65536 * b1 + 256 * b2 + b3 := by
  unfold inB at *
  have := word_be b0.toNat b1.toNat b2.toNat b3.toNat (by omega) (by omega) (by omega) (by omega)
  rw [Int.toNat_of_nonneg h0.1, Int.toNat_of_nonneg h1.1, Int.toNat_of_nonneg h2.1, Int.toNat_of_nonneg h3.1] at this
  rw [this]
  omega

set_option maxHeartbeats 8000000 in
theorem schedule_any (bf : Nat → Int) (hb : ∀ i, i < 64 → inB (bf i)) (w : World) : Calls Tryd.prog 26 #[(.agg (nums .u8 bf 64).toArray)] w fun e w' => e = .returned (.agg (nums .u32 (sch bf 64) 64).toArray) ∧ Below w.heap.size w w' := by
  have IB := Lib.hid hb
  clear hb
  go_enter Tryd.func26, Tryd.ntmps26
  go_upto_region 2 with fail
  obtain ⟨W0, hW⟩ : ∃ W0, W0 = (((w.alloc (.cells (nums .u8 bf 64).toArray 29)).alloc (.cells #[.int .u32 0, .int .u32 0, .int .u32 0, .int .u32 0, .int .u32 0, .int .u32 0, .int .u32 0, .int .u32 0, .int .u32 0, .int .u32 0, .int .u32 0, .int .u32 0, .int .u32 0, .int .u32 0, .int .u32 0, .int .u32 0, .int .u32 0, .int .u32 0, .int .u32 0, .int .u32 0, .int .u32 0, .int .u32 0, .int .u32 0, .int .u32 0, .int .u32 0, .int .u32 0, .int .u32 0, .int .u32 0, .int .u32 0, .int .u32 0, .int .u32 0, .int .u32 0, .int .u32 0, .int .u32 0, .int .u32 0, .int .u32 0, .int .u32 0, .int .u32 0, .int .u32 0, .int .u32 0, .int .u32 0, .int .u32 0, .int .u32 0, .int .u32 0, .int .u32 0, .int .u32 0, .int .u32 0, .int .u32 0, .int .u32 0, .int .u32 0, .int .u32 0, .int .u32 0, .int .u32 0, .int .u32 0, .int .u32 0, .int .u32 0, .int .u32 0, .int .u32 0, .int .u32 0, .int .u32 0, .int .u32 0, .int .u32 0, .int .u32 0, .int .u32 0] 32)).alloc (.cells #[.int .u32 0, .int .u32 0, .int .u32 0, .int .u32 0, .int .u32 0, .int .u32 0, .int .u32 0, .int .u32 0, .int .u32 0, .int .u32 0, .int .u32 0, .int .u32 0, .int .u32 0, .int .u32 0, .int .u32 0, .int .u32 0, .int .u32 0, .int .u32 0, .int .u32 0, .int .u32 0, .int .u32 0, .int .u32 0, .int .u32 0, .int .u32 0, .int .u32 0, .int .u32 0, .int .u32 0, .int .u32 0, .int .u32 0, .int .u32 0, .int .u32 0, .int .u32 0, .int .u32 0, .int .u32 0, .int .u32 0, .int .u32 0, .int .u32 0, .int .u32 0, .int .u32 0, .int .u32 0, .int .u32 0, .int .u32 0, .int .u32 0, .int .u32 0, .int .u32 0, .int .u32 0, .int .u32 0, .int .u32 0, .int .u32 0, .int .u32 0, .int .u32 0, .int .u32 0, .int .u32 0, .int .u32 0, .int .u32 0, .int .u32 0, .int .u32 0, .int .u32 0, .int .u32 0, .int .u32 0, .int .u32 0, .int .u32 0, .int .u32 0, .int .u32 0] 32)) := ⟨_, rfl⟩
  have hB0 : Below w.heap.size w W0 := hW ▸ (Below.al (Below.al (Below.al (Below.refl _ _))))
  have HBk : Hid (Own w.heap.size (nums .u8 bf 64) W0) := Lib.hid (hW ▸ (show Own w.heap.size (nums .u8 bf 64) (w.alloc (.cells (nums .u8 bf 64).toArray 29)) from Own.newAt (by simp)).alloc.alloc)
  have HR : Hid (Own (w.heap.size + 1) (nums .u32 (fun _ => 0) 64) W0) := Lib.hid (hW ▸ (show Own (w.heap.size + 1) (nums .u32 (fun _ => 0) 64) ((w.alloc (.cells (nums .u8 bf 64).toArray 29)).alloc (.cells #[.int .u32 0, .int .u32 0, .int .u32 0, .int .u32 0, .int .u32 0, .int .u32 0, .int .u32 0, .int .u32 0, .int .u32 0, .int .u32 0, .int .u32 0, .int .u32 0, .int .u32 0, .int .u32 0, .int .u32 0, .int .u32 0, .int .u32 0, .int .u32 0, .int .u32 0, .int .u32 0, .int .u32 0, .int .u32 0, .int .u32 0, .int .u32 0, .int .u32 0, .int .u32 0, .int .u32 0, .int .u32 0, .int .u32 0, .int .u32 0, .int .u32 0, .int .u32 0, .int .u32 0, .int .u32 0, .int .u32 0, .int .u32 0, .int .u32 0, .int .u32 0, .int .u32 0, .int .u32 0, .int .u32 0, .int .u32 0, .int .u32 0, .int .u32 0, .int .u32 0, .int .u32 0, .int .u32 0, .int .u32 0, .int .u32 0, .int .u32 0, .int .u32 0, .int .u32 0, .int .u32 0, .int .u32 0, .int .u32 0, .int .u32 0, .int .u32 0, .int .u32 0, .int .u32 0, .int .u32 0, .int .u32 0, .int .u32 0, .int .u32 0, .int .u32 0] 32)) from Own.newAt (by simp)).alloc)
  have HS : Hid (Own ((w.heap.size + 1) + 1) (nums .u32 (fun _ => 0) 64) W0) := Lib.hid (hW ▸ (show Own ((w.heap.size + 1) + 1) (nums .u32 (fun _ => 0) 64) (((w.alloc (.cells (nums .u8 bf 64).toArray 29)).alloc (.cells #[.int .u32 0, .int .u32 0, .int .u32 0, .int .u32 0, .int .u32 0, .int .u32 0, .int .u32 0, .int .u32 0, .int .u32 0, .int .u32 0, .int .u32 0, .int .u32 0, .int .u32 0, .int .u32 0, .int .u32 0, .int .u32 0, .int .u32 0, .int .u32 0, .int .u32 0, .int .u32 0, .int .u32 0, .int .u32 0, .int .u32 0, .int .u32 0, .int .u32 0, .int .u32 0, .int .u32 0, .int .u32 0, .int .u32 0, .int .u32 0, .int .u32 0, .int .u32 0, .int .u32 0, .int .u32 0, .int .u32 0, .int .u32 0, .int .u32 0, .int .u32 0, .int .u32 0, .int .u32 0, .int .u32 0, .int .u32 0, .int .u32 0, .int .u32 0, .int .u32 0, .int .u32 0, .int .u32 0, .int .u32 0, .int .u32 0, .int .u32 0, .int .u32 0, .int .u32 0, .int .u32 0, .int .u32 0, .int .u32 0, .int .u32 0, .int .u32 0, .int .u32 0, .int .u32 0, .int .u32 0, .int .u32 0, .int .u32 0, .int .u32 0, .int .u32 0] 32)).alloc (.cells #[.int .u32 0, .int .u32 0, .int .u32 0, .int .u32 0, .int .u32 0, .int .u32 0, .int .u32 0, .int .u32 0, .int .u32 0, .int .u32 0, .int .u32 0, .int .u32 0, .int .u32 0, .int .u32 0, .int .u32 0, .int .u32 0, .int .u32 0, .int .u32 0, .int .u32 0, .int .u32 0, .int .u32 0, .int .u32 0, .int .u32 0, .int .u32 0, .int .u32 0, .int .u32 0, .int .u32 0, .int .u32 0, .int .u32 0, .int .u32 0, .int .u32 0, .int .u32 0, .int .u32 0, .int .u32 0, .int .u32 0, .int .u32 0, .int .u32 0, .int .u32 0, .int .u32 0, .int .u32 0, .int .u32 0, .int .u32 0, .int .u32 0, .int .u32 0, .int .u32 0, .int .u32 0, .int .u32 0, .int .u32 0, .int .u32 0, .int .u32 0, .int .u32 0, .int .u32 0, .int .u32 0, .int .u32 0, .int .u32 0, .int .u32 0, .int .u32 0, .int .u32 0, .int .u32 0, .int .u32 0, .int .u32 0, .int .u32 0, .int .u32 0, .int .u32 0] 32)) from Own.newAt (by simp)))
  rw [← hW]
  clear hW
  obtain ⟨S, eS⟩ : ∃ X, X = ((w.heap.size + 1) + 1) := ⟨_, rfl⟩
  rw [← eS] at HS ⊢
  have Sw : w.heap.size ≤ S := by omega
  obtain ⟨R, eR⟩ : ∃ X, X = (w.heap.size + 1) := ⟨_, rfl⟩
  rw [← eR] at HR ⊢
  have Rw : w.heap.size ≤ R := by omega
  obtain ⟨B, eB⟩ : ∃ X, X = w.heap.size := ⟨_, rfl⟩
  rw [← eB] at HBk ⊢
  have Bw : w.heap.size ≤ B := by omega
  have nBR : B ≠ R := by omega
  have nRB : R ≠ B := by omega
  have nBS : B ≠ S := by omega
  have nSB : S ≠ B := by omega
  have nRS : R ≠ S := by omega
  have nSR : S ≠ R := by omega
  clear eB eR eS
  go_wp2_with (fail)
  go_loopw [11] (fun iv wr => ∃ (k : Nat), k ≤ 16 ∧ iv = .int .i64 k ∧ Hid (Below w.heap.size w wr) ∧ Hid (Own B (nums .u8 bf 64) wr) ∧ Hid (Own R (nums .u32 (fun _ => 0) 64) wr) ∧ Hid (Own S (nums .u32 (sch bf k) 64) wr)) (fun iv _ => (16 - (intOf iv).toNat))
  case atStart => exact ⟨0, Nat.zero_le _, rfl, Lib.hid hB0, HBk, HR, HS⟩
  case round =>
    clear HBk HR HS hB0
    obtain ⟨k, hk, rfl, HB, HBk, HR, HS⟩ := hrel
    by_cases hlt : k < 16
    · have J0 := Lib.hid (IB.out (4 * k) (by omega)); have J1 := Lib.hid (IB.out (4 * k + 1) (by omega)); have J2 := Lib.hid (IB.out (4 * k + 2) (by omega)); have J3 := Lib.hid (IB.out (4 * k + 3) (by omega))
      have V0 := Lib.hid (nums_at .u8 bf (show 4 * k < 64 by omega)); have V1 := Lib.hid (nums_at .u8 bf (show 4 * k + 1 < 64 by omega)); have V2 := Lib.hid (nums_at .u8 bf (show 4 * k + 2 < 64 by omega)); have V3 := Lib.hid (nums_at .u8 bf (show 4 * k + 3 < 64 by omega))
      have E := Lib.hid (show 16777216 * bf (4 * k) + 65536 * bf (4 * k + 1) + 256 * bf (4 * k + 2) + bf (4 * k + 3) = be bf k from rfl)
      obtain ⟨x0, e0⟩ : ∃ z, bf (4 * k) = z := ⟨_, rfl⟩
      obtain ⟨x1, e1⟩ : ∃ z, bf (4 * k + 1) = z := ⟨_, rfl⟩
      obtain ⟨x2, e2⟩ : ∃ z, bf (4 * k + 2) = z := ⟨_, rfl⟩
      obtain ⟨x3, e3⟩ : ∃ z, bf (4 * k + 3) = z := ⟨_, rfl⟩
      rw [e0] at J0 V0; rw [e1] at J1 V1; rw [e2] at J2 V2; rw [e3] at J3 V3
      rw [e0, e1, e2, e3, ← word_be' x0 x1 x2 x3 J0.out J1.out J2.out J3.out] at E
      clear e0 e1 e2 e3
      have v0 := (conv_u8_ x0 J0.out).1; have v1 := (conv_u8_ x1 J1.out).1; have v2 := (conv_u8_ x2 J2.out).1; have v3 := (conv_u8_ x3 J3.out).1
      have q0 := (conv_u8_ x0 J0.out).2; have q1 := (conv_u8_ x1 J1.out).2; have q2 := (conv_u8_ x2 J2.out).2; have q3 := (conv_u8_ x3 J3.out).2
      obtain ⟨z0, f0⟩ : ∃ z, x0 * 16777216 % 4294967296 = z := ⟨_, rfl⟩
      obtain ⟨z1, f1⟩ : ∃ z, x1 * 65536 % 4294967296 = z := ⟨_, rfl⟩
      obtain ⟨z2, f2⟩ : ∃ z, x2 * 256 % 4294967296 = z := ⟨_, rfl⟩
      rw [f0, f1, f2] at E
      have w0 : IntKind.u32.wrap (x0 * 16777216) = z0 := (IntKind.wrap_u32' _).trans f0
      have w1 : IntKind.u32.wrap (x1 * 65536) = z1 := (IntKind.wrap_u32' _).trans f1
      have w2 : IntKind.u32.wrap (x2 * 256) = z2 := (IntKind.wrap_u32' _).trans f2
      obtain ⟨y1, g1⟩ : ∃ z, bits .or .u32 z0 z1 = z := ⟨_, rfl⟩
      rw [g1] at E
      obtain ⟨y2, g2⟩ : ∃ z, bits .or .u32 y1 z2 = z := ⟨_, rfl⟩
      rw [g2] at E
      obtain ⟨y3, g3⟩ : ∃ z, bits .or .u32 y2 x3 = z := ⟨_, rfl⟩
      rw [g3] at E
      have hki : (k : Int) < 16 := by omega
      have k0 : (0 : Int) ≤ (k : Int) := by omega
      have wk : IntKind.i64.wrap ((k : Int) + 1) = (k : Int) + 1 := IntWalk.i64_in _ (by omega)
      obtain ⟨q, eq⟩ : ∃ q : Nat, q = 4 * k := ⟨_, rfl⟩
      have w4 : 4 * (k : Int) = (q : Int) := by omega
      have wq : IntKind.i64.wrap (q : Int) = (q : Int) := IntWalk.i64_in _ (by omega)
      have hk64 : (k : Int) < 64 := by omega
      obtain ⟨m, em⟩ : ∃ m : Nat, m = 64 - q := ⟨_, rfl⟩
      have hq0 : (0 : Int) ≤ (q : Int) := by omega
      have hq1 : (q : Int) ≤ 64 := by omega
      have hqn : q ≤ 64 := by omega
      have hm0 : (0 : Int) < (m : Int) := by omega
      have hm0n : 0 < m := by omega
      have hm1 : (1 : Int) < (m : Int) := by omega
      have hm2 : (2 : Int) < (m : Int) := by omega
      have hm3 : (3 : Int) < (m : Int) := by omega
      rw [← eq] at V0 V1 V2 V3
      replace eq := Lib.hid eq
      replace em := Lib.hid em
      go_wp2_with (fail)
      rw [show 64 - q = m from em.out.symm]
      have HLT := Lib.hid hlt
      clear hlt hk
      refine wp_region_fun 25 (by kernel_rfl) (by kernel_rfl) rfl (fun s b => ⟨#[(.agg (nums .u8 bf 64).toArray), .pointer (some ⟨B, 0, none⟩), .pointer (some ⟨R, 0, none⟩), .pointer (some ⟨S, 0, none⟩), .int .i64 k, .slice (some ⟨B, q, none⟩) m m, undef, undef, undef, undef, undef, .int .i64 k, .bool true, .int .i64 k, .int .i64 k, .int .i64 q, .slice (some ⟨B, q, none⟩) m m, s 17, s 18, s 19, s 20, s 21, s 22, s 23, s 24, s 25, s 26, s 27, s 28, s 29, s 30, s 31, s 32, s 33, s 34, s 35, s 36, s 37, s 38, s 39, s 40, u41, undef, undef, undef, undef, undef, undef, undef, undef, undef, undef, undef, undef, undef, undef, undef, undef, undef, undef, undef, undef, undef, undef, undef, undef, undef, undef, undef, undef, undef, undef, undef, undef, undef, undef, undef, undef, undef, undef, undef, undef, undef, undef, undef, undef], []⟩) (fun d s b w => (d 24 = false → Below wr.heap.size wr w) ∧ (d 0 = true → s 17 = .int .i64 k) ∧ (d 1 = true → s 18 = .slice (some ⟨B, q, none⟩) m m) ∧ (d 2 = true → s 19 = .pointer (some ⟨B, (q + 0), none⟩)) ∧ (d 3 = true → s 20 = .int .u8 x0) ∧ (d 4 = true → s 21 = .int .u32 x0) ∧ (d 5 = true → s 22 = .int .u32 z0) ∧ (d 6 = true → s 23 = .slice (some ⟨B, q, none⟩) m m) ∧ (d 7 = true → s 24 = .pointer (some ⟨B, (q + 1), none⟩)) ∧ (d 8 = true → s 25 = .int .u8 x1) ∧ (d 9 = true → s 26 = .int .u32 x1) ∧ (d 10 = true → s 27 = .int .u32 z1) ∧ (d 11 = true → s 28 = .int .u32 y1) ∧ (d 12 = true → s 29 = .slice (some ⟨B, q, none⟩) m m) ∧ (d 13 = true → s 30 = .pointer (some ⟨B, (q + 2), none⟩)) ∧ (d 14 = true → s 31 = .int .u8 x2) ∧ (d 15 = true → s 32 = .int .u32 x2) ∧ (d 16 = true → s 33 = .int .u32 z2) ∧ (d 17 = true → s 34 = .int .u32 y2) ∧ (d 18 = true → s 35 = .slice (some ⟨B, q, none⟩) m m) ∧ (d 19 = true → s 36 = .pointer (some ⟨B, (q + 3), none⟩)) ∧ (d 20 = true → s 37 = .int .u8 x3) ∧ (d 21 = true → s 38 = .int .u32 x3) ∧ (d 22 = true → s 39 = .int .u32 y3) ∧ (d 23 = true → s 40 = .pointer (some ⟨S, k, none⟩)) ∧ (d 24 = true → ∀ j, j < 24 → d j = true) ∧ (d 24 = true → ∃ w2, Below wr.heap.size wr w2 ∧ w = w2.setCells S k [.int .u32 y3])) rfl ?h0y_ (?sty_ : StepsF _ _ _ _ 25 _ _ [0, 1, 2, 3, 4, 5, 6, 7, 8, 9, 10, 11, 12, 13, 14, 15, 16, 17, 18, 19, 20, 21, 22, 23, 24]) ?dny_
      case h0y_ => exact ⟨fun _ => Below.drew (Below.refl _ _), (fun h => nomatch h), (fun h => nomatch h), (fun h => nomatch h), (fun h => nomatch h), (fun h => nomatch h), (fun h => nomatch h), (fun h => nomatch h), (fun h => nomatch h), (fun h => nomatch h), (fun h => nomatch h), (fun h => nomatch h), (fun h => nomatch h), (fun h => nomatch h), (fun h => nomatch h), (fun h => nomatch h), (fun h => nomatch h), (fun h => nomatch h), (fun h => nomatch h), (fun h => nomatch h), (fun h => nomatch h), (fun h => nomatch h), (fun h => nomatch h), (fun h => nomatch h), (fun h => nomatch h), (fun h => nomatch h), (fun h => nomatch h)⟩
      case sty_ =>
        refine StepsF.cons (o := _) rfl (ws := []) (by kernel_rfl) (by decide) (fun d s b w hF hd hw K_ hK => ?_) ?_
        · have hk : d 24 = false := by cases e : d 24 with | false => rfl | true => exact absurd ((p25_ hF.out) e 0 (by decide)) (by simp [hd])
          have hB : Below wr.heap.size wr w := (p0_ hF.out) hk
          dsimp only
          go_simp
          exact hK.out (ups s 17 (.int .i64 k)) b _ ⟨(fun _ => hB), (fun _ => rfl), (p2_ hF.out), (p3_ hF.out), (p4_ hF.out), (p5_ hF.out), (p6_ hF.out), (p7_ hF.out), (p8_ hF.out), (p9_ hF.out), (p10_ hF.out), (p11_ hF.out), (p12_ hF.out), (p13_ hF.out), (p14_ hF.out), (p15_ hF.out), (p16_ hF.out), (p17_ hF.out), (p18_ hF.out), (p19_ hF.out), (p20_ hF.out), (p21_ hF.out), (p22_ hF.out), (p23_ hF.out), (p24_ hF.out), (fun h => absurd ((p25_ hF.out) h 0 (by decide)) (by simp [hd])), (fun h => absurd ((p25_ hF.out) h 0 (by decide)) (by simp [hd]))⟩
        refine StepsF.cons (o := _) rfl (ws := []) (by kernel_rfl) (by decide) (fun d s b w hF hd hw K_ hK => ?_) ?_
        · have hk : d 24 = false := by cases e : d 24 with | false => rfl | true => exact absurd ((p25_ hF.out) e 1 (by decide)) (by simp [hd])
          have hB : Below wr.heap.size wr w := (p0_ hF.out) hk
          dsimp only
          go_simp
          exact hK.out (ups s 18 (.slice (some ⟨B, q, none⟩) m m)) b _ ⟨(fun _ => hB), (p1_ hF.out), (fun _ => rfl), (p3_ hF.out), (p4_ hF.out), (p5_ hF.out), (p6_ hF.out), (p7_ hF.out), (p8_ hF.out), (p9_ hF.out), (p10_ hF.out), (p11_ hF.out), (p12_ hF.out), (p13_ hF.out), (p14_ hF.out), (p15_ hF.out), (p16_ hF.out), (p17_ hF.out), (p18_ hF.out), (p19_ hF.out), (p20_ hF.out), (p21_ hF.out), (p22_ hF.out), (p23_ hF.out), (p24_ hF.out), (fun h => absurd ((p25_ hF.out) h 1 (by decide)) (by simp [hd])), (fun h => absurd ((p25_ hF.out) h 1 (by decide)) (by simp [hd]))⟩
        refine StepsF.cons (o := _) rfl (ws := [1]) (by kernel_rfl) (by decide) (fun d s b w hF hd hw K_ hK => ?_) ?_
        · have hk : d 24 = false := by cases e : d 24 with | false => rfl | true => exact absurd ((p25_ hF.out) e 2 (by decide)) (by simp [hd])
          have hB : Below wr.heap.size wr w := (p0_ hF.out) hk
          have e1 : s 18 = .slice (some ⟨B, q, none⟩) m m := (p2_ hF.out) (hw 1 (by decide))
          dsimp only
          go_simp
          exact hK.out (ups (ups s 18 (.slice (some ⟨B, q, none⟩) m m)) 19 (.pointer (some ⟨B, (q + 0), none⟩))) b _ ⟨(fun _ => hB), (p1_ hF.out), (fun _ => rfl), (fun _ => rfl), (p4_ hF.out), (p5_ hF.out), (p6_ hF.out), (p7_ hF.out), (p8_ hF.out), (p9_ hF.out), (p10_ hF.out), (p11_ hF.out), (p12_ hF.out), (p13_ hF.out), (p14_ hF.out), (p15_ hF.out), (p16_ hF.out), (p17_ hF.out), (p18_ hF.out), (p19_ hF.out), (p20_ hF.out), (p21_ hF.out), (p22_ hF.out), (p23_ hF.out), (p24_ hF.out), (fun h => absurd ((p25_ hF.out) h 2 (by decide)) (by simp [hd])), (fun h => absurd ((p25_ hF.out) h 2 (by decide)) (by simp [hd]))⟩
        refine StepsF.cons (o := _) rfl (ws := [2]) (by kernel_rfl) (by decide) (fun d s b w hF hd hw K_ hK => ?_) ?_
        · have hk : d 24 = false := by cases e : d 24 with | false => rfl | true => exact absurd ((p25_ hF.out) e 3 (by decide)) (by simp [hd])
          have hB : Below wr.heap.size wr w := (p0_ hF.out) hk
          have e2 : s 19 = .pointer (some ⟨B, (q + 0), none⟩) := (p3_ hF.out) (hw 2 (by decide))
          dsimp only
          have oS := HBk.out.later hB
          have Sx := oS.at q _ V0.out
          clear oS
          go_simp
          exact hK.out (ups (ups s 19 (.pointer (some ⟨B, (q + 0), none⟩))) 20 (.int .u8 x0)) b _ ⟨(fun _ => hB), (p1_ hF.out), (p2_ hF.out), (fun _ => rfl), (fun _ => rfl), (p5_ hF.out), (p6_ hF.out), (p7_ hF.out), (p8_ hF.out), (p9_ hF.out), (p10_ hF.out), (p11_ hF.out), (p12_ hF.out), (p13_ hF.out), (p14_ hF.out), (p15_ hF.out), (p16_ hF.out), (p17_ hF.out), (p18_ hF.out), (p19_ hF.out), (p20_ hF.out), (p21_ hF.out), (p22_ hF.out), (p23_ hF.out), (p24_ hF.out), (fun h => absurd ((p25_ hF.out) h 3 (by decide)) (by simp [hd])), (fun h => absurd ((p25_ hF.out) h 3 (by decide)) (by simp [hd]))⟩
        refine StepsF.cons (o := _) rfl (ws := [3]) (by kernel_rfl) (by decide) (fun d s b w hF hd hw K_ hK => ?_) ?_
        · have hk : d 24 = false := by cases e : d 24 with | false => rfl | true => exact absurd ((p25_ hF.out) e 4 (by decide)) (by simp [hd])
          have hB : Below wr.heap.size wr w := (p0_ hF.out) hk
          have e3 : s 20 = .int .u8 x0 := (p4_ hF.out) (hw 3 (by decide))
          dsimp only
          go_simp
          exact hK.out (ups (ups s 20 (.int .u8 x0)) 21 (.int .u32 x0)) b _ ⟨(fun _ => hB), (p1_ hF.out), (p2_ hF.out), (p3_ hF.out), (fun _ => rfl), (fun _ => rfl), (p6_ hF.out), (p7_ hF.out), (p8_ hF.out), (p9_ hF.out), (p10_ hF.out), (p11_ hF.out), (p12_ hF.out), (p13_ hF.out), (p14_ hF.out), (p15_ hF.out), (p16_ hF.out), (p17_ hF.out), (p18_ hF.out), (p19_ hF.out), (p20_ hF.out), (p21_ hF.out), (p22_ hF.out), (p23_ hF.out), (p24_ hF.out), (fun h => absurd ((p25_ hF.out) h 4 (by decide)) (by simp [hd])), (fun h => absurd ((p25_ hF.out) h 4 (by decide)) (by simp [hd]))⟩
        refine StepsF.cons (o := _) rfl (ws := [4]) (by kernel_rfl) (by decide) (fun d s b w hF hd hw K_ hK => ?_) ?_
        · have hk : d 24 = false := by cases e : d 24 with | false => rfl | true => exact absurd ((p25_ hF.out) e 5 (by decide)) (by simp [hd])
          have hB : Below wr.heap.size wr w := (p0_ hF.out) hk
          have e4 : s 21 = .int .u32 x0 := (p5_ hF.out) (hw 4 (by decide))
          dsimp only
          go_simp
          exact hK.out (ups (ups s 21 (.int .u32 x0)) 22 (.int .u32 z0)) b _ ⟨(fun _ => hB), (p1_ hF.out), (p2_ hF.out), (p3_ hF.out), (p4_ hF.out), (fun _ => rfl), (fun _ => rfl), (p7_ hF.out), (p8_ hF.out), (p9_ hF.out), (p10_ hF.out), (p11_ hF.out), (p12_ hF.out), (p13_ hF.out), (p14_ hF.out), (p15_ hF.out), (p16_ hF.out), (p17_ hF.out), (p18_ hF.out), (p19_ hF.out), (p20_ hF.out), (p21_ hF.out), (p22_ hF.out), (p23_ hF.out), (p24_ hF.out), (fun h => absurd ((p25_ hF.out) h 5 (by decide)) (by simp [hd])), (fun h => absurd ((p25_ hF.out) h 5 (by decide)) (by simp [hd]))⟩
        refine StepsF.cons (o := _) rfl (ws := []) (by kernel_rfl) (by decide) (fun d s b w hF hd hw K_ hK => ?_) ?_
        · have hk : d 24 = false := by cases e : d 24 with | false => rfl | true => exact absurd ((p25_ hF.out) e 6 (by decide)) (by simp [hd])
          have hB : Below wr.heap.size wr w := (p0_ hF.out) hk
          dsimp only
          go_simp
          exact hK.out (ups s 23 (.slice (some ⟨B, q, none⟩) m m)) b _ ⟨(fun _ => hB), (p1_ hF.out), (p2_ hF.out), (p3_ hF.out), (p4_ hF.out), (p5_ hF.out), (p6_ hF.out), (fun _ => rfl), (p8_ hF.out), (p9_ hF.out), (p10_ hF.out), (p11_ hF.out), (p12_ hF.out), (p13_ hF.out), (p14_ hF.out), (p15_ hF.out), (p16_ hF.out), (p17_ hF.out), (p18_ hF.out), (p19_ hF.out), (p20_ hF.out), (p21_ hF.out), (p22_ hF.out), (p23_ hF.out), (p24_ hF.out), (fun h => absurd ((p25_ hF.out) h 6 (by decide)) (by simp [hd])), (fun h => absurd ((p25_ hF.out) h 6 (by decide)) (by simp [hd]))⟩
        refine StepsF.cons (o := _) rfl (ws := [6]) (by kernel_rfl) (by decide) (fun d s b w hF hd hw K_ hK => ?_) ?_
        · have hk : d 24 = false := by cases e : d 24 with | false => rfl | true => exact absurd ((p25_ hF.out) e 7 (by decide)) (by simp [hd])
          have hB : Below wr.heap.size wr w := (p0_ hF.out) hk
          have e6 : s 23 = .slice (some ⟨B, q, none⟩) m m := (p7_ hF.out) (hw 6 (by decide))
          dsimp only
          go_simp
          exact hK.out (ups (ups s 23 (.slice (some ⟨B, q, none⟩) m m)) 24 (.pointer (some ⟨B, (q + 1), none⟩))) b _ ⟨(fun _ => hB), (p1_ hF.out), (p2_ hF.out), (p3_ hF.out), (p4_ hF.out), (p5_ hF.out), (p6_ hF.out), (fun _ => rfl), (fun _ => rfl), (p9_ hF.out), (p10_ hF.out), (p11_ hF.out), (p12_ hF.out), (p13_ hF.out), (p14_ hF.out), (p15_ hF.out), (p16_ hF.out), (p17_ hF.out), (p18_ hF.out), (p19_ hF.out), (p20_ hF.out), (p21_ hF.out), (p22_ hF.out), (p23_ hF.out), (p24_ hF.out), (fun h => absurd ((p25_ hF.out) h 7 (by decide)) (by simp [hd])), (fun h => absurd ((p25_ hF.out) h 7 (by decide)) (by simp [hd]))⟩
        refine StepsF.cons (o := _) rfl (ws := [7]) (by kernel_rfl) (by decide) (fun d s b w hF hd hw K_ hK => ?_) ?_
        · have hk : d 24 = false := by cases e : d 24 with | false => rfl | true => exact absurd ((p25_ hF.out) e 8 (by decide)) (by simp [hd])
          have hB : Below wr.heap.size wr w := (p0_ hF.out) hk
          have e7 : s 24 = .pointer (some ⟨B, (q + 1), none⟩) := (p8_ hF.out) (hw 7 (by decide))
          dsimp only
          have oS := HBk.out.later hB
          have Sx := oS.at (q + 1) _ V1.out
          clear oS
          go_simp
          exact hK.out (ups (ups s 24 (.pointer (some ⟨B, (q + 1), none⟩))) 25 (.int .u8 x1)) b _ ⟨(fun _ => hB), (p1_ hF.out), (p2_ hF.out), (p3_ hF.out), (p4_ hF.out), (p5_ hF.out), (p6_ hF.out), (p7_ hF.out), (fun _ => rfl), (fun _ => rfl), (p10_ hF.out), (p11_ hF.out), (p12_ hF.out), (p13_ hF.out), (p14_ hF.out), (p15_ hF.out), (p16_ hF.out), (p17_ hF.out), (p18_ hF.out), (p19_ hF.out), (p20_ hF.out), (p21_ hF.out), (p22_ hF.out), (p23_ hF.out), (p24_ hF.out), (fun h => absurd ((p25_ hF.out) h 8 (by decide)) (by simp [hd])), (fun h => absurd ((p25_ hF.out) h 8 (by decide)) (by simp [hd]))⟩
        refine StepsF.cons (o := _) rfl (ws := [8]) (by kernel_rfl) (by decide) (fun d s b w hF hd hw K_ hK => ?_) ?_
        · have hk : d 24 = false := by cases e : d 24 with | false => rfl | true => exact absurd ((p25_ hF.out) e 9 (by decide)) (by simp [hd])
          have hB : Below wr.heap.size wr w := (p0_ hF.out) hk
          have e8 : s 25 = .int .u8 x1 := (p9_ hF.out) (hw 8 (by decide))
          dsimp only
          go_simp
          exact hK.out (ups (ups s 25 (.int .u8 x1)) 26 (.int .u32 x1)) b _ ⟨(fun _ => hB), (p1_ hF.out), (p2_ hF.out), (p3_ hF.out), (p4_ hF.out), (p5_ hF.out), (p6_ hF.out), (p7_ hF.out), (p8_ hF.out), (fun _ => rfl), (fun _ => rfl), (p11_ hF.out), (p12_ hF.out), (p13_ hF.out), (p14_ hF.out), (p15_ hF.out), (p16_ hF.out), (p17_ hF.out), (p18_ hF.out), (p19_ hF.out), (p20_ hF.out), (p21_ hF.out), (p22_ hF.out), (p23_ hF.out), (p24_ hF.out), (fun h => absurd ((p25_ hF.out) h 9 (by decide)) (by simp [hd])), (fun h => absurd ((p25_ hF.out) h 9 (by decide)) (by simp [hd]))⟩
        refine StepsF.cons (o := _) rfl (ws := [9]) (by kernel_rfl) (by decide) (fun d s b w hF hd hw K_ hK => ?_) ?_
        · have hk : d 24 = false := by cases e : d 24 with | false => rfl | true => exact absurd ((p25_ hF.out) e 10 (by decide)) (by simp [hd])
          have hB : Below wr.heap.size wr w := (p0_ hF.out) hk
          have e9 : s 26 = .int .u32 x1 := (p10_ hF.out) (hw 9 (by decide))
          dsimp only
          go_simp
          exact hK.out (ups (ups s 26 (.int .u32 x1)) 27 (.int .u32 z1)) b _ ⟨(fun _ => hB), (p1_ hF.out), (p2_ hF.out), (p3_ hF.out), (p4_ hF.out), (p5_ hF.out), (p6_ hF.out), (p7_ hF.out), (p8_ hF.out), (p9_ hF.out), (fun _ => rfl), (fun _ => rfl), (p12_ hF.out), (p13_ hF.out), (p14_ hF.out), (p15_ hF.out), (p16_ hF.out), (p17_ hF.out), (p18_ hF.out), (p19_ hF.out), (p20_ hF.out), (p21_ hF.out), (p22_ hF.out), (p23_ hF.out), (p24_ hF.out), (fun h => absurd ((p25_ hF.out) h 10 (by decide)) (by simp [hd])), (fun h => absurd ((p25_ hF.out) h 10 (by decide)) (by simp [hd]))⟩
        refine StepsF.cons (o := _) rfl (ws := [5, 10]) (by kernel_rfl) (by decide) (fun d s b w hF hd hw K_ hK => ?_) ?_
        · have hk : d 24 = false := by cases e : d 24 with | false => rfl | true => exact absurd ((p25_ hF.out) e 11 (by decide)) (by simp [hd])
          have hB : Below wr.heap.size wr w := (p0_ hF.out) hk
          have e5 : s 22 = .int .u32 z0 := (p6_ hF.out) (hw 5 (by decide))
          have e10 : s 27 = .int .u32 z1 := (p11_ hF.out) (hw 10 (by decide))
          dsimp only
          go_simp
          exact hK.out (ups (ups (ups s 22 (.int .u32 z0)) 27 (.int .u32 z1)) 28 (.int .u32 y1)) b _ ⟨(fun _ => hB), (p1_ hF.out), (p2_ hF.out), (p3_ hF.out), (p4_ hF.out), (p5_ hF.out), (fun _ => rfl), (p7_ hF.out), (p8_ hF.out), (p9_ hF.out), (p10_ hF.out), (fun _ => rfl), (fun _ => rfl), (p13_ hF.out), (p14_ hF.out), (p15_ hF.out), (p16_ hF.out), (p17_ hF.out), (p18_ hF.out), (p19_ hF.out), (p20_ hF.out), (p21_ hF.out), (p22_ hF.out), (p23_ hF.out), (p24_ hF.out), (fun h => absurd ((p25_ hF.out) h 11 (by decide)) (by simp [hd])), (fun h => absurd ((p25_ hF.out) h 11 (by decide)) (by simp [hd]))⟩
        refine StepsF.cons (o := _) rfl (ws := []) (by kernel_rfl) (by decide) (fun d s b w hF hd hw K_ hK => ?_) ?_
        · have hk : d 24 = false := by cases e : d 24 with | false => rfl | true => exact absurd ((p25_ hF.out) e 12 (by decide)) (by simp [hd])
          have hB : Below wr.heap.size wr w := (p0_ hF.out) hk
          dsimp only
          go_simp
          exact hK.out (ups s 29 (.slice (some ⟨B, q, none⟩) m m)) b _ ⟨(fun _ => hB), (p1_ hF.out), (p2_ hF.out), (p3_ hF.out), (p4_ hF.out), (p5_ hF.out), (p6_ hF.out), (p7_ hF.out), (p8_ hF.out), (p9_ hF.out), (p10_ hF.out), (p11_ hF.out), (p12_ hF.out), (fun _ => rfl), (p14_ hF.out), (p15_ hF.out), (p16_ hF.out), (p17_ hF.out), (p18_ hF.out), (p19_ hF.out), (p20_ hF.out), (p21_ hF.out), (p22_ hF.out), (p23_ hF.out), (p24_ hF.out), (fun h => absurd ((p25_ hF.out) h 12 (by decide)) (by simp [hd])), (fun h => absurd ((p25_ hF.out) h 12 (by decide)) (by simp [hd]))⟩
        refine StepsF.cons (o := _) rfl (ws := [12]) (by kernel_rfl) (by decide) (fun d s b w hF hd hw K_ hK => ?_) ?_
        · have hk : d 24 = false := by cases e : d 24 with | false => rfl | true => exact absurd ((p25_ hF.out) e 13 (by decide)) (by simp [hd])
          have hB : Below wr.heap.size wr w := (p0_ hF.out) hk
          have e12 : s 29 = .slice (some ⟨B, q, none⟩) m m := (p13_ hF.out) (hw 12 (by decide))
          dsimp only
          go_simp
          exact hK.out (ups (ups s 29 (.slice (some ⟨B, q, none⟩) m m)) 30 (.pointer (some ⟨B, (q + 2), none⟩))) b _ ⟨(fun _ => hB), (p1_ hF.out), (p2_ hF.out), (p3_ hF.out), (p4_ hF.out), (p5_ hF.out), (p6_ hF.out), (p7_ hF.out), (p8_ hF.out), (p9_ hF.out), (p10_ hF.out), (p11_ hF.out), (p12_ hF.out), (fun _ => rfl), (fun _ => rfl), (p15_ hF.out), (p16_ hF.out), (p17_ hF.out), (p18_ hF.out), (p19_ hF.out), (p20_ hF.out), (p21_ hF.out), (p22_ hF.out), (p23_ hF.out), (p24_ hF.out), (fun h => absurd ((p25_ hF.out) h 13 (by decide)) (by simp [hd])), (fun h => absurd ((p25_ hF.out) h 13 (by decide)) (by simp [hd]))⟩
        refine StepsF.cons (o := _) rfl (ws := [13]) (by kernel_rfl) (by decide) (fun d s b w hF hd hw K_ hK => ?_) ?_
        · have hk : d 24 = false := by cases e : d 24 with | false => rfl | true => exact absurd ((p25_ hF.out) e 14 (by decide)) (by simp [hd])
          have hB : Below wr.heap.size wr w := (p0_ hF.out) hk
          have e13 : s 30 = .pointer (some ⟨B, (q + 2), none⟩) := (p14_ hF.out) (hw 13 (by decide))
          dsimp only
          have oS := HBk.out.later hB
          have Sx := oS.at (q + 2) _ V2.out
          clear oS
          go_simp
          exact hK.out (ups (ups s 30 (.pointer (some ⟨B, (q + 2), none⟩))) 31 (.int .u8 x2)) b _ ⟨(fun _ => hB), (p1_ hF.out), (p2_ hF.out), (p3_ hF.out), (p4_ hF.out), (p5_ hF.out), (p6_ hF.out), (p7_ hF.out), (p8_ hF.out), (p9_ hF.out), (p10_ hF.out), (p11_ hF.out), (p12_ hF.out), (p13_ hF.out), (fun _ => rfl), (fun _ => rfl), (p16_ hF.out), (p17_ hF.out), (p18_ hF.out), (p19_ hF.out), (p20_ hF.out), (p21_ hF.out), (p22_ hF.out), (p23_ hF.out), (p24_ hF.out), (fun h => absurd ((p25_ hF.out) h 14 (by decide)) (by simp [hd])), (fun h => absurd ((p25_ hF.out) h 14 (by decide)) (by simp [hd]))⟩
        refine StepsF.cons (o := _) rfl (ws := [14]) (by kernel_rfl) (by decide) (fun d s b w hF hd hw K_ hK => ?_) ?_
        · have hk : d 24 = false := by cases e : d 24 with | false => rfl | true => exact absurd ((p25_ hF.out) e 15 (by decide)) (by simp [hd])
          have hB : Below wr.heap.size wr w := (p0_ hF.out) hk
          have e14 : s 31 = .int .u8 x2 := (p15_ hF.out) (hw 14 (by decide))
          dsimp only
          go_simp
          exact hK.out (ups (ups s 31 (.int .u8 x2)) 32 (.int .u32 x2)) b _ ⟨(fun _ => hB), (p1_ hF.out), (p2_ hF.out), (p3_ hF.out), (p4_ hF.out), (p5_ hF.out), (p6_ hF.out), (p7_ hF.out), (p8_ hF.out), (p9_ hF.out), (p10_ hF.out), (p11_ hF.out), (p12_ hF.out), (p13_ hF.out), (p14_ hF.out), (fun _ => rfl), (fun _ => rfl), (p17_ hF.out), (p18_ hF.out), (p19_ hF.out), (p20_ hF.out), (p21_ hF.out), (p22_ hF.out), (p23_ hF.out), (p24_ hF.out), (fun h => absurd ((p25_ hF.out) h 15 (by decide)) (by simp [hd])), (fun h => absurd ((p25_ hF.out) h 15 (by decide)) (by simp [hd]))⟩
        refine StepsF.cons (o := _) rfl (ws := [15]) (by kernel_rfl) (by decide) (fun d s b w hF hd hw K_ hK => ?_) ?_
        · have hk : d 24 = false := by cases e : d 24 with | false => rfl | true => exact absurd ((p25_ hF.out) e 16 (by decide)) (by simp [hd])
          have hB : Below wr.heap.size wr w := (p0_ hF.out) hk
          have e15 : s 32 = .int .u32 x2 := (p16_ hF.out) (hw 15 (by decide))
          dsimp only
          go_simp
          exact hK.out (ups (ups s 32 (.int .u32 x2)) 33 (.int .u32 z2)) b _ ⟨(fun _ => hB), (p1_ hF.out), (p2_ hF.out), (p3_ hF.out), (p4_ hF.out), (p5_ hF.out), (p6_ hF.out), (p7_ hF.out), (p8_ hF.out), (p9_ hF.out), (p10_ hF.out), (p11_ hF.out), (p12_ hF.out), (p13_ hF.out), (p14_ hF.out), (p15_ hF.out), (fun _ => rfl), (fun _ => rfl), (p18_ hF.out), (p19_ hF.out), (p20_ hF.out), (p21_ hF.out), (p22_ hF.out), (p23_ hF.out), (p24_ hF.out), (fun h => absurd ((p25_ hF.out) h 16 (by decide)) (by simp [hd])), (fun h => absurd ((p25_ hF.out) h 16 (by decide)) (by simp [hd]))⟩
        refine StepsF.cons (o := _) rfl (ws := [11, 16]) (by kernel_rfl) (by decide) (fun d s b w hF hd hw K_ hK => ?_) ?_
        · have hk : d 24 = false := by cases e : d 24 with | false => rfl | true => exact absurd ((p25_ hF.out) e 17 (by decide)) (by simp [hd])
          have hB : Below wr.heap.size wr w := (p0_ hF.out) hk
          have e11 : s 28 = .int .u32 y1 := (p12_ hF.out) (hw 11 (by decide))
          have e16 : s 33 = .int .u32 z2 := (p17_ hF.out) (hw 16 (by decide))
          dsimp only
          go_simp
          exact hK.out (ups (ups (ups s 28 (.int .u32 y1)) 33 (.int .u32 z2)) 34 (.int .u32 y2)) b _ ⟨(fun _ => hB), (p1_ hF.out), (p2_ hF.out), (p3_ hF.out), (p4_ hF.out), (p5_ hF.out), (p6_ hF.out), (p7_ hF.out), (p8_ hF.out), (p9_ hF.out), (p10_ hF.out), (p11_ hF.out), (fun _ => rfl), (p13_ hF.out), (p14_ hF.out), (p15_ hF.out), (p16_ hF.out), (fun _ => rfl), (fun _ => rfl), (p19_ hF.out), (p20_ hF.out), (p21_ hF.out), (p22_ hF.out), (p23_ hF.out), (p24_ hF.out), (fun h => absurd ((p25_ hF.out) h 17 (by decide)) (by simp [hd])), (fun h => absurd ((p25_ hF.out) h 17 (by decide)) (by simp [hd]))⟩
        refine StepsF.cons (o := _) rfl (ws := []) (by kernel_rfl) (by decide) (fun d s b w hF hd hw K_ hK => ?_) ?_
        · have hk : d 24 = false := by cases e : d 24 with | false => rfl | true => exact absurd ((p25_ hF.out) e 18 (by decide)) (by simp [hd])
          have hB : Below wr.heap.size wr w := (p0_ hF.out) hk
          dsimp only
          go_simp
          exact hK.out (ups s 35 (.slice (some ⟨B, q, none⟩) m m)) b _ ⟨(fun _ => hB), (p1_ hF.out), (p2_ hF.out), (p3_ hF.out), (p4_ hF.out), (p5_ hF.out), (p6_ hF.out), (p7_ hF.out), (p8_ hF.out), (p9_ hF.out), (p10_ hF.out), (p11_ hF.out), (p12_ hF.out), (p13_ hF.out), (p14_ hF.out), (p15_ hF.out), (p16_ hF.out), (p17_ hF.out), (p18_ hF.out), (fun _ => rfl), (p20_ hF.out), (p21_ hF.out), (p22_ hF.out), (p23_ hF.out), (p24_ hF.out), (fun h => absurd ((p25_ hF.out) h 18 (by decide)) (by simp [hd])), (fun h => absurd ((p25_ hF.out) h 18 (by decide)) (by simp [hd]))⟩
        refine StepsF.cons (o := _) rfl (ws := [18]) (by kernel_rfl) (by decide) (fun d s b w hF hd hw K_ hK => ?_) ?_
        · have hk : d 24 = false := by cases e : d 24 with | false => rfl | true => exact absurd ((p25_ hF.out) e 19 (by decide)) (by simp [hd])
          have hB : Below wr.heap.size wr w := (p0_ hF.out) hk
          have e18 : s 35 = .slice (some ⟨B, q, none⟩) m m := (p19_ hF.out) (hw 18 (by decide))
          dsimp only
          go_simp
          exact hK.out (ups (ups s 35 (.slice (some ⟨B, q, none⟩) m m)) 36 (.pointer (some ⟨B, (q + 3), none⟩))) b _ ⟨(fun _ => hB), (p1_ hF.out), (p2_ hF.out), (p3_ hF.out), (p4_ hF.out), (p5_ hF.out), (p6_ hF.out), (p7_ hF.out), (p8_ hF.out), (p9_ hF.out), (p10_ hF.out), (p11_ hF.out), (p12_ hF.out), (p13_ hF.out), (p14_ hF.out), (p15_ hF.out), (p16_ hF.out), (p17_ hF.out), (p18_ hF.out), (fun _ => rfl), (fun _ => rfl), (p21_ hF.out), (p22_ hF.out), (p23_ hF.out), (p24_ hF.out), (fun h => absurd ((p25_ hF.out) h 19 (by decide)) (by simp [hd])), (fun h => absurd ((p25_ hF.out) h 19 (by decide)) (by simp [hd]))⟩
        refine StepsF.cons (o := _) rfl (ws := [19]) (by kernel_rfl) (by decide) (fun d s b w hF hd hw K_ hK => ?_) ?_
        · have hk : d 24 = false := by cases e : d 24 with | false => rfl | true => exact absurd ((p25_ hF.out) e 20 (by decide)) (by simp [hd])
          have hB : Below wr.heap.size wr w := (p0_ hF.out) hk
          have e19 : s 36 = .pointer (some ⟨B, (q + 3), none⟩) := (p20_ hF.out) (hw 19 (by decide))
          dsimp only
          have oS := HBk.out.later hB
          have Sx := oS.at (q + 3) _ V3.out
          clear oS
          go_simp
          exact hK.out (ups (ups s 36 (.pointer (some ⟨B, (q + 3), none⟩))) 37 (.int .u8 x3)) b _ ⟨(fun _ => hB), (p1_ hF.out), (p2_ hF.out), (p3_ hF.out), (p4_ hF.out), (p5_ hF.out), (p6_ hF.out), (p7_ hF.out), (p8_ hF.out), (p9_ hF.out), (p10_ hF.out), (p11_ hF.out), (p12_ hF.out), (p13_ hF.out), (p14_ hF.out), (p15_ hF.out), (p16_ hF.out), (p17_ hF.out), (p18_ hF.out), (p19_ hF.out), (fun _ => rfl), (fun _ => rfl), (p22_ hF.out), (p23_ hF.out), (p24_ hF.out), (fun h => absurd ((p25_ hF.out) h 20 (by decide)) (by simp [hd])), (fun h => absurd ((p25_ hF.out) h 20 (by decide)) (by simp [hd]))⟩
        refine StepsF.cons (o := _) rfl (ws := [20]) (by kernel_rfl) (by decide) (fun d s b w hF hd hw K_ hK => ?_) ?_
        · have hk : d 24 = false := by cases e : d 24 with | false => rfl | true => exact absurd ((p25_ hF.out) e 21 (by decide)) (by simp [hd])
          have hB : Below wr.heap.size wr w := (p0_ hF.out) hk
          have e20 : s 37 = .int .u8 x3 := (p21_ hF.out) (hw 20 (by decide))
          dsimp only
          go_simp
          exact hK.out (ups (ups s 37 (.int .u8 x3)) 38 (.int .u32 x3)) b _ ⟨(fun _ => hB), (p1_ hF.out), (p2_ hF.out), (p3_ hF.out), (p4_ hF.out), (p5_ hF.out), (p6_ hF.out), (p7_ hF.out), (p8_ hF.out), (p9_ hF.out), (p10_ hF.out), (p11_ hF.out), (p12_ hF.out), (p13_ hF.out), (p14_ hF.out), (p15_ hF.out), (p16_ hF.out), (p17_ hF.out), (p18_ hF.out), (p19_ hF.out), (p20_ hF.out), (fun _ => rfl), (fun _ => rfl), (p23_ hF.out), (p24_ hF.out), (fun h => absurd ((p25_ hF.out) h 21 (by decide)) (by simp [hd])), (fun h => absurd ((p25_ hF.out) h 21 (by decide)) (by simp [hd]))⟩
        refine StepsF.cons (o := _) rfl (ws := [17, 21]) (by kernel_rfl) (by decide) (fun d s b w hF hd hw K_ hK => ?_) ?_
        · have hk : d 24 = false := by cases e : d 24 with | false => rfl | true => exact absurd ((p25_ hF.out) e 22 (by decide)) (by simp [hd])
          have hB : Below wr.heap.size wr w := (p0_ hF.out) hk
          have e17 : s 34 = .int .u32 y2 := (p18_ hF.out) (hw 17 (by decide))
          have e21 : s 38 = .int .u32 x3 := (p22_ hF.out) (hw 21 (by decide))
          dsimp only
          go_simp
          exact hK.out (ups (ups (ups s 34 (.int .u32 y2)) 38 (.int .u32 x3)) 39 (.int .u32 y3)) b _ ⟨(fun _ => hB), (p1_ hF.out), (p2_ hF.out), (p3_ hF.out), (p4_ hF.out), (p5_ hF.out), (p6_ hF.out), (p7_ hF.out), (p8_ hF.out), (p9_ hF.out), (p10_ hF.out), (p11_ hF.out), (p12_ hF.out), (p13_ hF.out), (p14_ hF.out), (p15_ hF.out), (p16_ hF.out), (p17_ hF.out), (fun _ => rfl), (p19_ hF.out), (p20_ hF.out), (p21_ hF.out), (fun _ => rfl), (fun _ => rfl), (p24_ hF.out), (fun h => absurd ((p25_ hF.out) h 22 (by decide)) (by simp [hd])), (fun h => absurd ((p25_ hF.out) h 22 (by decide)) (by simp [hd]))⟩
        refine StepsF.cons (o := _) rfl (ws := [0, 0, 1, 2, 3, 4, 5, 6, 7, 8, 9, 10, 11, 12, 13, 14, 15, 16, 17, 18, 19, 20, 21, 22]) (by kernel_rfl) (by decide) (fun d s b w hF hd hw K_ hK => ?_) ?_
        · have hk : d 24 = false := by cases e : d 24 with | false => rfl | true => exact absurd ((p25_ hF.out) e 23 (by decide)) (by simp [hd])
          have hB : Below wr.heap.size wr w := (p0_ hF.out) hk
          have e0 : s 17 = .int .i64 k := (p1_ hF.out) (hw 0 (by decide))
          have e1 : s 18 = .slice (some ⟨B, q, none⟩) m m := (p2_ hF.out) (hw 1 (by decide))
          have e2 : s 19 = .pointer (some ⟨B, (q + 0), none⟩) := (p3_ hF.out) (hw 2 (by decide))
          have e3 : s 20 = .int .u8 x0 := (p4_ hF.out) (hw 3 (by decide))
          have e4 : s 21 = .int .u32 x0 := (p5_ hF.out) (hw 4 (by decide))
          have e5 : s 22 = .int .u32 z0 := (p6_ hF.out) (hw 5 (by decide))
          have e6 : s 23 = .slice (some ⟨B, q, none⟩) m m := (p7_ hF.out) (hw 6 (by decide))
          have e7 : s 24 = .pointer (some ⟨B, (q + 1), none⟩) := (p8_ hF.out) (hw 7 (by decide))
          have e8 : s 25 = .int .u8 x1 := (p9_ hF.out) (hw 8 (by decide))
          have e9 : s 26 = .int .u32 x1 := (p10_ hF.out) (hw 9 (by decide))
          have e10 : s 27 = .int .u32 z1 := (p11_ hF.out) (hw 10 (by decide))
          have e11 : s 28 = .int .u32 y1 := (p12_ hF.out) (hw 11 (by decide))
          have e12 : s 29 = .slice (some ⟨B, q, none⟩) m m := (p13_ hF.out) (hw 12 (by decide))
          have e13 : s 30 = .pointer (some ⟨B, (q + 2), none⟩) := (p14_ hF.out) (hw 13 (by decide))
          have e14 : s 31 = .int .u8 x2 := (p15_ hF.out) (hw 14 (by decide))
          have e15 : s 32 = .int .u32 x2 := (p16_ hF.out) (hw 15 (by decide))
          have e16 : s 33 = .int .u32 z2 := (p17_ hF.out) (hw 16 (by decide))
          have e17 : s 34 = .int .u32 y2 := (p18_ hF.out) (hw 17 (by decide))
          have e18 : s 35 = .slice (some ⟨B, q, none⟩) m m := (p19_ hF.out) (hw 18 (by decide))
          have e19 : s 36 = .pointer (some ⟨B, (q + 3), none⟩) := (p20_ hF.out) (hw 19 (by decide))
          have e20 : s 37 = .int .u8 x3 := (p21_ hF.out) (hw 20 (by decide))
          have e21 : s 38 = .int .u32 x3 := (p22_ hF.out) (hw 21 (by decide))
          have e22 : s 39 = .int .u32 y3 := (p23_ hF.out) (hw 22 (by decide))
          dsimp only
          go_simp
          exact hK.out (ups (ups (ups (ups (ups (ups (ups (ups (ups (ups (ups (ups (ups (ups (ups (ups (ups (ups (ups (ups (ups (ups (ups (ups s 17 (.int .i64 k)) 18 (.slice (some ⟨B, q, none⟩) m m)) 19 (.pointer (some ⟨B, (q + 0), none⟩))) 20 (.int .u8 x0)) 21 (.int .u32 x0)) 22 (.int .u32 z0)) 23 (.slice (some ⟨B, q, none⟩) m m)) 24 (.pointer (some ⟨B, (q + 1), none⟩))) 25 (.int .u8 x1)) 26 (.int .u32 x1)) 27 (.int .u32 z1)) 28 (.int .u32 y1)) 29 (.slice (some ⟨B, q, none⟩) m m)) 30 (.pointer (some ⟨B, (q + 2), none⟩))) 31 (.int .u8 x2)) 32 (.int .u32 x2)) 33 (.int .u32 z2)) 34 (.int .u32 y2)) 35 (.slice (some ⟨B, q, none⟩) m m)) 36 (.pointer (some ⟨B, (q + 3), none⟩))) 37 (.int .u8 x3)) 38 (.int .u32 x3)) 39 (.int .u32 y3)) 40 (.pointer (some ⟨S, k, none⟩))) b _ ⟨(fun _ => hB), (fun _ => rfl), (fun _ => rfl), (fun _ => rfl), (fun _ => rfl), (fun _ => rfl), (fun _ => rfl), (fun _ => rfl), (fun _ => rfl), (fun _ => rfl), (fun _ => rfl), (fun _ => rfl), (fun _ => rfl), (fun _ => rfl), (fun _ => rfl), (fun _ => rfl), (fun _ => rfl), (fun _ => rfl), (fun _ => rfl), (fun _ => rfl), (fun _ => rfl), (fun _ => rfl), (fun _ => rfl), (fun _ => rfl), (fun _ => rfl), (fun h => absurd ((p25_ hF.out) h 23 (by decide)) (by simp [hd])), (fun h => absurd ((p25_ hF.out) h 23 (by decide)) (by simp [hd]))⟩
        refine StepsF.cons (o := _) rfl (ws := [23, 22, 0, 1, 2, 3, 4, 5, 6, 7, 8, 9, 10, 11, 12, 13, 14, 15, 16, 17, 18, 19, 20, 21, 22]) (by kernel_rfl) (by decide) (fun d s b w hF hd hw K_ hK => ?_) ?_
        · have hB : Below wr.heap.size wr w := (p0_ hF.out) hd
          have e0 : s 17 = .int .i64 k := (p1_ hF.out) (hw 0 (by decide))
          have e1 : s 18 = .slice (some ⟨B, q, none⟩) m m := (p2_ hF.out) (hw 1 (by decide))
          have e2 : s 19 = .pointer (some ⟨B, (q + 0), none⟩) := (p3_ hF.out) (hw 2 (by decide))
          have e3 : s 20 = .int .u8 x0 := (p4_ hF.out) (hw 3 (by decide))
          have e4 : s 21 = .int .u32 x0 := (p5_ hF.out) (hw 4 (by decide))
          have e5 : s 22 = .int .u32 z0 := (p6_ hF.out) (hw 5 (by decide))
          have e6 : s 23 = .slice (some ⟨B, q, none⟩) m m := (p7_ hF.out) (hw 6 (by decide))
          have e7 : s 24 = .pointer (some ⟨B, (q + 1), none⟩) := (p8_ hF.out) (hw 7 (by decide))
          have e8 : s 25 = .int .u8 x1 := (p9_ hF.out) (hw 8 (by decide))
          have e9 : s 26 = .int .u32 x1 := (p10_ hF.out) (hw 9 (by decide))
          have e10 : s 27 = .int .u32 z1 := (p11_ hF.out) (hw 10 (by decide))
          have e11 : s 28 = .int .u32 y1 := (p12_ hF.out) (hw 11 (by decide))
          have e12 : s 29 = .slice (some ⟨B, q, none⟩) m m := (p13_ hF.out) (hw 12 (by decide))
          have e13 : s 30 = .pointer (some ⟨B, (q + 2), none⟩) := (p14_ hF.out) (hw 13 (by decide))
          have e14 : s 31 = .int .u8 x2 := (p15_ hF.out) (hw 14 (by decide))
          have e15 : s 32 = .int .u32 x2 := (p16_ hF.out) (hw 15 (by decide))
          have e16 : s 33 = .int .u32 z2 := (p17_ hF.out) (hw 16 (by decide))
          have e17 : s 34 = .int .u32 y2 := (p18_ hF.out) (hw 17 (by decide))
          have e18 : s 35 = .slice (some ⟨B, q, none⟩) m m := (p19_ hF.out) (hw 18 (by decide))
          have e19 : s 36 = .pointer (some ⟨B, (q + 3), none⟩) := (p20_ hF.out) (hw 19 (by decide))
          have e20 : s 37 = .int .u8 x3 := (p21_ hF.out) (hw 20 (by decide))
          have e21 : s 38 = .int .u32 x3 := (p22_ hF.out) (hw 21 (by decide))
          have e22 : s 39 = .int .u32 y3 := (p23_ hF.out) (hw 22 (by decide))
          have e23 : s 40 = .pointer (some ⟨S, k, none⟩) := (p24_ hF.out) (hw 23 (by decide))
          dsimp only
          have oz := HS.out.later hB
          have fr := oz.ok k (by rw [nums_length]; have := HLT.out; omega)
          have Sc := oz.at k _ (nums_at .u32 _ (Nat.lt_trans HLT.out (by decide)))
          have oX := HS.out.later hB
          clear oX
          go_simp
          exact hK.out (ups (ups (ups (ups (ups (ups (ups (ups (ups (ups (ups (ups (ups (ups (ups (ups (ups (ups (ups (ups (ups (ups (ups (ups s 17 (.int .i64 k)) 18 (.slice (some ⟨B, q, none⟩) m m)) 19 (.pointer (some ⟨B, (q + 0), none⟩))) 20 (.int .u8 x0)) 21 (.int .u32 x0)) 22 (.int .u32 z0)) 23 (.slice (some ⟨B, q, none⟩) m m)) 24 (.pointer (some ⟨B, (q + 1), none⟩))) 25 (.int .u8 x1)) 26 (.int .u32 x1)) 27 (.int .u32 z1)) 28 (.int .u32 y1)) 29 (.slice (some ⟨B, q, none⟩) m m)) 30 (.pointer (some ⟨B, (q + 2), none⟩))) 31 (.int .u8 x2)) 32 (.int .u32 x2)) 33 (.int .u32 z2)) 34 (.int .u32 y2)) 35 (.slice (some ⟨B, q, none⟩) m m)) 36 (.pointer (some ⟨B, (q + 3), none⟩))) 37 (.int .u8 x3)) 38 (.int .u32 x3)) 39 (.int .u32 y3)) 40 (.pointer (some ⟨S, k, none⟩))) b _ ⟨(fun h => nomatch h), (fun _ => rfl), (fun _ => rfl), (fun _ => rfl), (fun _ => rfl), (fun _ => rfl), (fun _ => rfl), (fun _ => rfl), (fun _ => rfl), (fun _ => rfl), (fun _ => rfl), (fun _ => rfl), (fun _ => rfl), (fun _ => rfl), (fun _ => rfl), (fun _ => rfl), (fun _ => rfl), (fun _ => rfl), (fun _ => rfl), (fun _ => rfl), (fun _ => rfl), (fun _ => rfl), (fun _ => rfl), (fun _ => rfl), (fun _ => rfl), (fun _ j hj => by have hj2 := hw j (by simp; omega); simp [upd, hj2]), (fun _ => ⟨w, hB, rfl⟩)⟩
        exact StepsF.nil
      intro d s b y_ hF hall
      replace hF := Lib.hid hF
      obtain ⟨y_, hB, rfl⟩ := (q26_ hF.out) (hall 24 (by decide))
      try dsimp only
      have e0 : s 17 = .int .i64 k := (p1_ hF.out) (hall 0 (by decide))
      have e1 : s 18 = .slice (some ⟨B, q, none⟩) m m := (p2_ hF.out) (hall 1 (by decide))
      have e2 : s 19 = .pointer (some ⟨B, (q + 0), none⟩) := (p3_ hF.out) (hall 2 (by decide))
      have e3 : s 20 = .int .u8 x0 := (p4_ hF.out) (hall 3 (by decide))
      have e4 : s 21 = .int .u32 x0 := (p5_ hF.out) (hall 4 (by decide))
      have e5 : s 22 = .int .u32 z0 := (p6_ hF.out) (hall 5 (by decide))
      have e6 : s 23 = .slice (some ⟨B, q, none⟩) m m := (p7_ hF.out) (hall 6 (by decide))
      have e7 : s 24 = .pointer (some ⟨B, (q + 1), none⟩) := (p8_ hF.out) (hall 7 (by decide))
      have e8 : s 25 = .int .u8 x1 := (p9_ hF.out) (hall 8 (by decide))
      have e9 : s 26 = .int .u32 x1 := (p10_ hF.out) (hall 9 (by decide))
      have e10 : s 27 = .int .u32 z1 := (p11_ hF.out) (hall 10 (by decide))
      have e11 : s 28 = .int .u32 y1 := (p12_ hF.out) (hall 11 (by decide))
      have e12 : s 29 = .slice (some ⟨B, q, none⟩) m m := (p13_ hF.out) (hall 12 (by decide))
      have e13 : s 30 = .pointer (some ⟨B, (q + 2), none⟩) := (p14_ hF.out) (hall 13 (by decide))
      have e14 : s 31 = .int .u8 x2 := (p15_ hF.out) (hall 14 (by decide))
      have e15 : s 32 = .int .u32 x2 := (p16_ hF.out) (hall 15 (by decide))
      have e16 : s 33 = .int .u32 z2 := (p17_ hF.out) (hall 16 (by decide))
      have e17 : s 34 = .int .u32 y2 := (p18_ hF.out) (hall 17 (by decide))
      have e18 : s 35 = .slice (some ⟨B, q, none⟩) m m := (p19_ hF.out) (hall 18 (by decide))
      have e19 : s 36 = .pointer (some ⟨B, (q + 3), none⟩) := (p20_ hF.out) (hall 19 (by decide))
      have e20 : s 37 = .int .u8 x3 := (p21_ hF.out) (hall 20 (by decide))
      have e21 : s 38 = .int .u32 x3 := (p22_ hF.out) (hall 21 (by decide))
      have e22 : s 39 = .int .u32 y3 := (p23_ hF.out) (hall 22 (by decide))
      have e23 : s 40 = .pointer (some ⟨S, k, none⟩) := (p24_ hF.out) (hall 23 (by decide))
      rw [e0, e1, e2, e3, e4, e5, e6, e7, e8, e9, e10, e11, e12, e13, e14, e15, e16, e17, e18, e19, e20, e21, e22, e23]
      clear hall hF e0 e1 e2 e3 e4 e5 e6 e7 e8 e9 e10 e11 e12 e13 e14 e15 e16 e17 e18 e19 e20 e21 e22 e23
      clear d s b
      have XE := Lib.hid (show nums .u32 (at1 (sch bf k) k y3) 64 = nums .u32 (sch bf (k + 1)) 64 by
        rw [E.out, show sch bf (k + 1) = at1 (sch bf k) k (if k < 16 then be bf k else newW (sch bf k) k) from rfl, if_pos HLT.out])
      have O1 := Lib.hid (XE.out ▸ own_set (v := y3) (HS.out.later hB) (Nat.lt_trans HLT.out (by decide)))
      have O2 := Lib.hid (Own.far (c := S) (o := k) (vs := [.int .u32 y3]) (HBk.out.later hB) nBS)
      have O3 := Lib.hid (Own.far (c := S) (o := k) (vs := [.int .u32 y3]) (HR.out.later hB) nRS)
      have O4 := Lib.hid (Below.setCells (Below.go HB.out hB) Sw [.int .u32 y3] k)
      clear HBk HR HS HB hB E XE
      go_wp2_with (fail)
      go_roundw
      case rel => (first | exact ⟨k + 1, HLT.out, by go_num, O4, O2, O3, O1⟩ | ((repeat apply Exists.intro); exact ⟨⟨k + 1, HLT.out, by go_num, O4, O2, O3, O1⟩, rfl⟩))
      case measure => (have := HLT.out; simp [intOf]; omega)
    · have e16 : k = 16 := by omega
      subst e16
      clear hlt hk
      go_wp2_with (fail)
      go_loopw [6] (fun iv wr => ∃ (k : Nat), 16 ≤ k ∧ k ≤ 64 ∧ iv = .int .i64 k ∧ Hid (Below w.heap.size w wr) ∧ Hid (Own R (nums .u32 (fun _ => 0) 64) wr) ∧ Hid (Own S (nums .u32 (sch bf k) 64) wr)) (fun iv _ => (64 - (intOf iv).toNat))
      case atStart => exact ⟨16, Nat.le_refl _, by decide, rfl, HB, HR, HS⟩
      case round =>
        clear HBk HR HS HB
        obtain ⟨k, hk16, hk, rfl, HB, HR, HS⟩ := hrel
        by_cases hlt : k < 64
        · have XE := Lib.hid (show newW (sch bf k) k = sch bf (k + 1) k by
            rw [show sch bf (k + 1) = at1 (sch bf k) k (if k < 16 then be bf k else newW (sch bf k) k) from rfl, if_neg (by omega)]
            simp [at1])
          have XN := Lib.hid (show sch bf (k + 1) = at1 (sch bf k) k (newW (sch bf k) k) by
            rw [show sch bf (k + 1) = at1 (sch bf k) k (if k < 16 then be bf k else newW (sch bf k) k) from rfl, if_neg (by omega)])
          obtain ⟨a2, e2⟩ : ∃ a, a = k - 2 := ⟨_, rfl⟩
          obtain ⟨a7, e7⟩ : ∃ a, a = k - 7 := ⟨_, rfl⟩
          obtain ⟨a15, e15⟩ : ∃ a, a = k - 15 := ⟨_, rfl⟩
          obtain ⟨a16, e16⟩ : ∃ a, a = k - 16 := ⟨_, rfl⟩
          have J2 := Lib.hid (in_sch IB.out k a2); have J7 := Lib.hid (in_sch IB.out k a7); have J15 := Lib.hid (in_sch IB.out k a15); have J16 := Lib.hid (in_sch IB.out k a16)
          have V2 := Lib.hid (nums_at .u32 (sch bf k) (show a2 < 64 by omega)); have V7 := Lib.hid (nums_at .u32 (sch bf k) (show a7 < 64 by omega)); have V15 := Lib.hid (nums_at .u32 (sch bf k) (show a15 < 64 by omega)); have V16 := Lib.hid (nums_at .u32 (sch bf k) (show a16 < 64 by omega))
          have E : Hid (newW (sch bf k) k = add32 (add32 (add32 (sma1 (sch bf k a2)) (sch bf k a7)) (sma0 (sch bf k a15))) (sch bf k a16)) := Lib.hid (by rw [e2, e7, e15, e16, newW])
          generalize sch bf k a2 = x2 at *
          generalize sch bf k a7 = x7 at *
          generalize sch bf k a15 = x15 at *
          generalize sch bf k a16 = x16 at *
          obtain ⟨s0, es0⟩ : ∃ z, sma0 x15 = z := ⟨_, rfl⟩
          obtain ⟨s1, es1⟩ : ∃ z, sma1 x2 = z := ⟨_, rfl⟩
          rw [es0, es1] at E
          obtain ⟨y0, g0⟩ : ∃ z, bits .xor .u32 (ror 7 x15) (ror 18 x15) = z := ⟨_, rfl⟩
          obtain ⟨h0, g1⟩ : ∃ z, x15 / 8 = z := ⟨_, rfl⟩
          have g2 : bits .xor .u32 y0 h0 = s0 := by rw [← g0, ← g1]; exact es0
          obtain ⟨y3, g3⟩ : ∃ z, bits .xor .u32 (ror 17 x2) (ror 19 x2) = z := ⟨_, rfl⟩
          obtain ⟨h3, g4⟩ : ∃ z, x2 / 1024 = z := ⟨_, rfl⟩
          have g5 : bits .xor .u32 y3 h3 = s1 := by rw [← g3, ← g4]; exact es1
          obtain ⟨p1, f1⟩ : ∃ z, add32 s1 x7 = z := ⟨_, rfl⟩
          obtain ⟨p2, f2⟩ : ∃ z, add32 p1 s0 = z := ⟨_, rfl⟩
          obtain ⟨p3, f3⟩ : ∃ z, add32 p2 x16 = z := ⟨_, rfl⟩
          rw [f1, f2, f3] at E
          have m1 : IntKind.u32.wrap (s1 + x7) = p1 := (IntKind.wrap_u32' _).trans f1
          have m2 : IntKind.u32.wrap (p1 + s0) = p2 := (IntKind.wrap_u32' _).trans f2
          have m3 : IntKind.u32.wrap (p2 + x16) = p3 := (IntKind.wrap_u32' _).trans f3
          unfold add32 at f1 f2 f3
          clear es0 es1
          have d2 : (k : Int) - 2 = (a2 : Int) := by omega
          have d7 : (k : Int) - 7 = (a7 : Int) := by omega
          have d15 : (k : Int) - 15 = (a15 : Int) := by omega
          have d16 : (k : Int) - 16 = (a16 : Int) := by omega
          have b2 : (a2 : Int) < 64 := by omega
          have b7 : (a7 : Int) < 64 := by omega
          have b15 : (a15 : Int) < 64 := by omega
          have b16 : (a16 : Int) < 64 := by omega
          have c2 : (0 : Int) ≤ (a2 : Int) := by omega
          have c7 : (0 : Int) ≤ (a7 : Int) := by omega
          have c15 : (0 : Int) ≤ (a15 : Int) := by omega
          have c16 : (0 : Int) ≤ (a16 : Int) := by omega
          have hki : (k : Int) < 64 := by omega
          have k0 : (0 : Int) ≤ (k : Int) := by omega
          have wk : IntKind.i64.wrap ((k : Int) + 1) = (k : Int) + 1 := IntWalk.i64_in _ (by omega)
          have w2 : IntKind.i64.wrap (a2 : Int) = (a2 : Int) := IntWalk.i64_in _ (by omega)
          have w7 : IntKind.i64.wrap (a7 : Int) = (a7 : Int) := IntWalk.i64_in _ (by omega)
          have w15 : IntKind.i64.wrap (a15 : Int) = (a15 : Int) := IntWalk.i64_in _ (by omega)
          have w16 : IntKind.i64.wrap (a16 : Int) = (a16 : Int) := IntWalk.i64_in _ (by omega)
          have HLT := Lib.hid hlt
          have H16 := Lib.hid hk16
          clear hlt hk hk16 e2 e7 e15 e16
          have oS := HS.out
          have s2 := oS.at a2 _ V2.out; have s15 := oS.at a15 _ V15.out
          clear oS
          go_wp2_with (fail)
          go_quiet (fail)
          have hBd : Below wr.heap.size wr (wr.drewN nq) := below_drewN (Below.refl _ _) _
          have HSn := Lib.hid (HS.out.later hBd); have HRn := Lib.hid (HR.out.later hBd); have HBn := Lib.hid (Below.go HB.out hBd)
          clear HS HR HB hBd s2 s15
          generalize wr.drewN nq = w1 at *
          have HS := HSn; have HR := HRn; have HB := HBn
          clear HSn HRn HBn
          go_wp2_with (fail)
          go_at_call 27
          refine (rot7_sha x15 J15.out _).mono ?_
          rintro e wz ⟨rfl, rfl⟩
          go_wp2_with (fail)
          go_at_call 27
          refine (rot18_sha x15 J15.out _).mono ?_
          rintro e wz ⟨rfl, rfl⟩
          go_wp2_with (fail)
          go_at_call 27
          refine (rot17_sha x2 J2.out _).mono ?_
          rintro e wz ⟨rfl, rfl⟩
          go_wp2_with (fail)
          go_at_call 27
          refine (rot19_sha x2 J2.out _).mono ?_
          rintro e wz ⟨rfl, rfl⟩
          go_wp2_with (fail)
          clear g0 g1 g2 g3 g4 g5
          refine wp_region_fun 16 (by kernel_rfl) (by kernel_rfl) rfl (fun s b => ⟨#[(.agg (nums .u8 bf 64).toArray), .pointer (some ⟨B, 0, none⟩), .pointer (some ⟨R, 0, none⟩), .pointer (some ⟨S, 0, none⟩), u4, u5, .int .i64 k, .int .u32 x15, .int .u32 x2, .int .u32 s0, .int .u32 s1, .int .i64 16, .bool false, u13, u14, u15, u16, u17, u18, u19, u20, u21, u22, u23, u24, u25, u26, u27, u28, u29, u30, u31, u32, u33, u34, u35, u36, u37, u38, u39, u40, u41, .int .i64 k, .bool true, u44, u45, .int .i64 k, .int .i64 a15, .pointer (some ⟨S, a15, none⟩), .int .u32 x15, .int .i64 k, .int .i64 a2, .pointer (some ⟨S, a2, none⟩), .int .u32 x2, .int .u32 x15, .int .u32 (ror 7 x15), .int .u32 x15, .int .u32 (ror 18 x15), .int .u32 y0, .int .u32 x15, .int .u32 h0, .int .u32 s0, .int .u32 x2, .int .u32 (ror 17 x2), .int .u32 x2, .int .u32 (ror 19 x2), .int .u32 y3, .int .u32 x2, .int .u32 h3, .int .u32 s1, s 70, s 71, s 72, s 73, s 74, s 75, s 76, s 77, s 78, s 79, s 80, s 81, s 82, s 83, s 84, undef], []⟩) (fun d s b w => (d 15 = false → Below wz.heap.size wz w) ∧ (d 0 = true → s 70 = .int .i64 k) ∧ (d 1 = true → s 71 = .int .u32 s1) ∧ (d 2 = true → s 72 = .int .i64 k) ∧ (d 3 = true → s 73 = .int .i64 a7) ∧ (d 4 = true → s 74 = .pointer (some ⟨S, a7, none⟩)) ∧ (d 5 = true → s 75 = .int .u32 x7) ∧ (d 6 = true → s 76 = .int .u32 p1) ∧ (d 7 = true → s 77 = .int .u32 s0) ∧ (d 8 = true → s 78 = .int .u32 p2) ∧ (d 9 = true → s 79 = .int .i64 k) ∧ (d 10 = true → s 80 = .int .i64 a16) ∧ (d 11 = true → s 81 = .pointer (some ⟨S, a16, none⟩)) ∧ (d 12 = true → s 82 = .int .u32 x16) ∧ (d 13 = true → s 83 = .int .u32 p3) ∧ (d 14 = true → s 84 = .pointer (some ⟨S, k, none⟩)) ∧ (d 15 = true → ∀ j, j < 15 → d j = true) ∧ (d 15 = true → ∃ w2, Below wz.heap.size wz w2 ∧ w = w2.setCells S k [.int .u32 p3])) rfl ?h0yb_ (?styb_ : StepsF _ _ _ _ 16 _ _ [0, 1, 2, 3, 4, 5, 6, 7, 8, 9, 10, 11, 12, 13, 14, 15]) ?dnyb_
          case h0yb_ => exact ⟨fun _ => Below.drew (Below.refl _ _), (fun h => nomatch h), (fun h => nomatch h), (fun h => nomatch h), (fun h => nomatch h), (fun h => nomatch h), (fun h => nomatch h), (fun h => nomatch h), (fun h => nomatch h), (fun h => nomatch h), (fun h => nomatch h), (fun h => nomatch h), (fun h => nomatch h), (fun h => nomatch h), (fun h => nomatch h), (fun h => nomatch h), (fun h => nomatch h), (fun h => nomatch h)⟩
          case styb_ =>
            refine StepsF.cons (o := _) rfl (ws := []) (by kernel_rfl) (by decide) (fun d s b w hF hd hw K_ hK => ?_) ?_
            · have hk : d 15 = false := by cases e : d 15 with | false => rfl | true => exact absurd ((p16_ hF.out) e 0 (by decide)) (by simp [hd])
              have hB : Below wz.heap.size wz w := (p0_ hF.out) hk
              dsimp only
              go_simp
              exact hK.out (ups s 70 (.int .i64 k)) b _ ⟨(fun _ => hB), (fun _ => rfl), (p2_ hF.out), (p3_ hF.out), (p4_ hF.out), (p5_ hF.out), (p6_ hF.out), (p7_ hF.out), (p8_ hF.out), (p9_ hF.out), (p10_ hF.out), (p11_ hF.out), (p12_ hF.out), (p13_ hF.out), (p14_ hF.out), (p15_ hF.out), (fun h => absurd ((p16_ hF.out) h 0 (by decide)) (by simp [hd])), (fun h => absurd ((p16_ hF.out) h 0 (by decide)) (by simp [hd]))⟩
            refine StepsF.cons (o := _) rfl (ws := []) (by kernel_rfl) (by decide) (fun d s b w hF hd hw K_ hK => ?_) ?_
            · have hk : d 15 = false := by cases e : d 15 with | false => rfl | true => exact absurd ((p16_ hF.out) e 1 (by decide)) (by simp [hd])
              have hB : Below wz.heap.size wz w := (p0_ hF.out) hk
              dsimp only
              go_simp
              exact hK.out (ups s 71 (.int .u32 s1)) b _ ⟨(fun _ => hB), (p1_ hF.out), (fun _ => rfl), (p3_ hF.out), (p4_ hF.out), (p5_ hF.out), (p6_ hF.out), (p7_ hF.out), (p8_ hF.out), (p9_ hF.out), (p10_ hF.out), (p11_ hF.out), (p12_ hF.out), (p13_ hF.out), (p14_ hF.out), (p15_ hF.out), (fun h => absurd ((p16_ hF.out) h 1 (by decide)) (by simp [hd])), (fun h => absurd ((p16_ hF.out) h 1 (by decide)) (by simp [hd]))⟩
            refine StepsF.cons (o := _) rfl (ws := []) (by kernel_rfl) (by decide) (fun d s b w hF hd hw K_ hK => ?_) ?_
            · have hk : d 15 = false := by cases e : d 15 with | false => rfl | true => exact absurd ((p16_ hF.out) e 2 (by decide)) (by simp [hd])
              have hB : Below wz.heap.size wz w := (p0_ hF.out) hk
              dsimp only
              go_simp
              exact hK.out (ups s 72 (.int .i64 k)) b _ ⟨(fun _ => hB), (p1_ hF.out), (p2_ hF.out), (fun _ => rfl), (p4_ hF.out), (p5_ hF.out), (p6_ hF.out), (p7_ hF.out), (p8_ hF.out), (p9_ hF.out), (p10_ hF.out), (p11_ hF.out), (p12_ hF.out), (p13_ hF.out), (p14_ hF.out), (p15_ hF.out), (fun h => absurd ((p16_ hF.out) h 2 (by decide)) (by simp [hd])), (fun h => absurd ((p16_ hF.out) h 2 (by decide)) (by simp [hd]))⟩
            refine StepsF.cons (o := _) rfl (ws := [2]) (by kernel_rfl) (by decide) (fun d s b w hF hd hw K_ hK => ?_) ?_
            · have hk : d 15 = false := by cases e : d 15 with | false => rfl | true => exact absurd ((p16_ hF.out) e 3 (by decide)) (by simp [hd])
              have hB : Below wz.heap.size wz w := (p0_ hF.out) hk
              have e2 : s 72 = .int .i64 k := (p3_ hF.out) (hw 2 (by decide))
              dsimp only
              go_simp
              exact hK.out (ups (ups s 72 (.int .i64 k)) 73 (.int .i64 a7)) b _ ⟨(fun _ => hB), (p1_ hF.out), (p2_ hF.out), (fun _ => rfl), (fun _ => rfl), (p5_ hF.out), (p6_ hF.out), (p7_ hF.out), (p8_ hF.out), (p9_ hF.out), (p10_ hF.out), (p11_ hF.out), (p12_ hF.out), (p13_ hF.out), (p14_ hF.out), (p15_ hF.out), (fun h => absurd ((p16_ hF.out) h 3 (by decide)) (by simp [hd])), (fun h => absurd ((p16_ hF.out) h 3 (by decide)) (by simp [hd]))⟩
            refine StepsF.cons (o := _) rfl (ws := [3]) (by kernel_rfl) (by decide) (fun d s b w hF hd hw K_ hK => ?_) ?_
            · have hk : d 15 = false := by cases e : d 15 with | false => rfl | true => exact absurd ((p16_ hF.out) e 4 (by decide)) (by simp [hd])
              have hB : Below wz.heap.size wz w := (p0_ hF.out) hk
              have e3 : s 73 = .int .i64 a7 := (p4_ hF.out) (hw 3 (by decide))
              dsimp only
              go_simp
              exact hK.out (ups (ups s 73 (.int .i64 a7)) 74 (.pointer (some ⟨S, a7, none⟩))) b _ ⟨(fun _ => hB), (p1_ hF.out), (p2_ hF.out), (p3_ hF.out), (fun _ => rfl), (fun _ => rfl), (p6_ hF.out), (p7_ hF.out), (p8_ hF.out), (p9_ hF.out), (p10_ hF.out), (p11_ hF.out), (p12_ hF.out), (p13_ hF.out), (p14_ hF.out), (p15_ hF.out), (fun h => absurd ((p16_ hF.out) h 4 (by decide)) (by simp [hd])), (fun h => absurd ((p16_ hF.out) h 4 (by decide)) (by simp [hd]))⟩
            refine StepsF.cons (o := _) rfl (ws := [4]) (by kernel_rfl) (by decide) (fun d s b w hF hd hw K_ hK => ?_) ?_
            · have hk : d 15 = false := by cases e : d 15 with | false => rfl | true => exact absurd ((p16_ hF.out) e 5 (by decide)) (by simp [hd])
              have hB : Below wz.heap.size wz w := (p0_ hF.out) hk
              have e4 : s 74 = .pointer (some ⟨S, a7, none⟩) := (p5_ hF.out) (hw 4 (by decide))
              dsimp only
              have oS := HS.out.later hB
              have Sx := oS.at a7 _ V7.out
              clear oS
              go_simp
              exact hK.out (ups (ups s 74 (.pointer (some ⟨S, a7, none⟩))) 75 (.int .u32 x7)) b _ ⟨(fun _ => hB), (p1_ hF.out), (p2_ hF.out), (p3_ hF.out), (p4_ hF.out), (fun _ => rfl), (fun _ => rfl), (p7_ hF.out), (p8_ hF.out), (p9_ hF.out), (p10_ hF.out), (p11_ hF.out), (p12_ hF.out), (p13_ hF.out), (p14_ hF.out), (p15_ hF.out), (fun h => absurd ((p16_ hF.out) h 5 (by decide)) (by simp [hd])), (fun h => absurd ((p16_ hF.out) h 5 (by decide)) (by simp [hd]))⟩
            refine StepsF.cons (o := _) rfl (ws := [1, 5]) (by kernel_rfl) (by decide) (fun d s b w hF hd hw K_ hK => ?_) ?_
            · have hk : d 15 = false := by cases e : d 15 with | false => rfl | true => exact absurd ((p16_ hF.out) e 6 (by decide)) (by simp [hd])
              have hB : Below wz.heap.size wz w := (p0_ hF.out) hk
              have e1 : s 71 = .int .u32 s1 := (p2_ hF.out) (hw 1 (by decide))
              have e5 : s 75 = .int .u32 x7 := (p6_ hF.out) (hw 5 (by decide))
              dsimp only
              go_simp
              exact hK.out (ups (ups (ups s 71 (.int .u32 s1)) 75 (.int .u32 x7)) 76 (.int .u32 p1)) b _ ⟨(fun _ => hB), (p1_ hF.out), (fun _ => rfl), (p3_ hF.out), (p4_ hF.out), (p5_ hF.out), (fun _ => rfl), (fun _ => rfl), (p8_ hF.out), (p9_ hF.out), (p10_ hF.out), (p11_ hF.out), (p12_ hF.out), (p13_ hF.out), (p14_ hF.out), (p15_ hF.out), (fun h => absurd ((p16_ hF.out) h 6 (by decide)) (by simp [hd])), (fun h => absurd ((p16_ hF.out) h 6 (by decide)) (by simp [hd]))⟩
            refine StepsF.cons (o := _) rfl (ws := []) (by kernel_rfl) (by decide) (fun d s b w hF hd hw K_ hK => ?_) ?_
            · have hk : d 15 = false := by cases e : d 15 with | false => rfl | true => exact absurd ((p16_ hF.out) e 7 (by decide)) (by simp [hd])
              have hB : Below wz.heap.size wz w := (p0_ hF.out) hk
              dsimp only
              go_simp
              exact hK.out (ups s 77 (.int .u32 s0)) b _ ⟨(fun _ => hB), (p1_ hF.out), (p2_ hF.out), (p3_ hF.out), (p4_ hF.out), (p5_ hF.out), (p6_ hF.out), (p7_ hF.out), (fun _ => rfl), (p9_ hF.out), (p10_ hF.out), (p11_ hF.out), (p12_ hF.out), (p13_ hF.out), (p14_ hF.out), (p15_ hF.out), (fun h => absurd ((p16_ hF.out) h 7 (by decide)) (by simp [hd])), (fun h => absurd ((p16_ hF.out) h 7 (by decide)) (by simp [hd]))⟩
            refine StepsF.cons (o := _) rfl (ws := [6, 7]) (by kernel_rfl) (by decide) (fun d s b w hF hd hw K_ hK => ?_) ?_
            · have hk : d 15 = false := by cases e : d 15 with | false => rfl | true => exact absurd ((p16_ hF.out) e 8 (by decide)) (by simp [hd])
              have hB : Below wz.heap.size wz w := (p0_ hF.out) hk
              have e6 : s 76 = .int .u32 p1 := (p7_ hF.out) (hw 6 (by decide))
              have e7 : s 77 = .int .u32 s0 := (p8_ hF.out) (hw 7 (by decide))
              dsimp only
              go_simp
              exact hK.out (ups (ups (ups s 76 (.int .u32 p1)) 77 (.int .u32 s0)) 78 (.int .u32 p2)) b _ ⟨(fun _ => hB), (p1_ hF.out), (p2_ hF.out), (p3_ hF.out), (p4_ hF.out), (p5_ hF.out), (p6_ hF.out), (fun _ => rfl), (fun _ => rfl), (fun _ => rfl), (p10_ hF.out), (p11_ hF.out), (p12_ hF.out), (p13_ hF.out), (p14_ hF.out), (p15_ hF.out), (fun h => absurd ((p16_ hF.out) h 8 (by decide)) (by simp [hd])), (fun h => absurd ((p16_ hF.out) h 8 (by decide)) (by simp [hd]))⟩
            refine StepsF.cons (o := _) rfl (ws := []) (by kernel_rfl) (by decide) (fun d s b w hF hd hw K_ hK => ?_) ?_
            · have hk : d 15 = false := by cases e : d 15 with | false => rfl | true => exact absurd ((p16_ hF.out) e 9 (by decide)) (by simp [hd])
              have hB : Below wz.heap.size wz w := (p0_ hF.out) hk
              dsimp only
              go_simp
              exact hK.out (ups s 79 (.int .i64 k)) b _ ⟨(fun _ => hB), (p1_ hF.out), (p2_ hF.out), (p3_ hF.out), (p4_ hF.out), (p5_ hF.out), (p6_ hF.out), (p7_ hF.out), (p8_ hF.out), (p9_ hF.out), (fun _ => rfl), (p11_ hF.out), (p12_ hF.out), (p13_ hF.out), (p14_ hF.out), (p15_ hF.out), (fun h => absurd ((p16_ hF.out) h 9 (by decide)) (by simp [hd])), (fun h => absurd ((p16_ hF.out) h 9 (by decide)) (by simp [hd]))⟩
            refine StepsF.cons (o := _) rfl (ws := [9]) (by kernel_rfl) (by decide) (fun d s b w hF hd hw K_ hK => ?_) ?_
            · have hk : d 15 = false := by cases e : d 15 with | false => rfl | true => exact absurd ((p16_ hF.out) e 10 (by decide)) (by simp [hd])
              have hB : Below wz.heap.size wz w := (p0_ hF.out) hk
              have e9 : s 79 = .int .i64 k := (p10_ hF.out) (hw 9 (by decide))
              dsimp only
              go_simp
              exact hK.out (ups (ups s 79 (.int .i64 k)) 80 (.int .i64 a16)) b _ ⟨(fun _ => hB), (p1_ hF.out), (p2_ hF.out), (p3_ hF.out), (p4_ hF.out), (p5_ hF.out), (p6_ hF.out), (p7_ hF.out), (p8_ hF.out), (p9_ hF.out), (fun _ => rfl), (fun _ => rfl), (p12_ hF.out), (p13_ hF.out), (p14_ hF.out), (p15_ hF.out), (fun h => absurd ((p16_ hF.out) h 10 (by decide)) (by simp [hd])), (fun h => absurd ((p16_ hF.out) h 10 (by decide)) (by simp [hd]))⟩
            refine StepsF.cons (o := _) rfl (ws := [10]) (by kernel_rfl) (by decide) (fun d s b w hF hd hw K_ hK => ?_) ?_
            · have hk : d 15 = false := by cases e : d 15 with | false => rfl | true => exact absurd ((p16_ hF.out) e 11 (by decide)) (by simp [hd])
              have hB : Below wz.heap.size wz w := (p0_ hF.out) hk
              have e10 : s 80 = .int .i64 a16 := (p11_ hF.out) (hw 10 (by decide))
              dsimp only
              go_simp
              exact hK.out (ups (ups s 80 (.int .i64 a16)) 81 (.pointer (some ⟨S, a16, none⟩))) b _ ⟨(fun _ => hB), (p1_ hF.out), (p2_ hF.out), (p3_ hF.out), (p4_ hF.out), (p5_ hF.out), (p6_ hF.out), (p7_ hF.out), (p8_ hF.out), (p9_ hF.out), (p10_ hF.out), (fun _ => rfl), (fun _ => rfl), (p13_ hF.out), (p14_ hF.out), (p15_ hF.out), (fun h => absurd ((p16_ hF.out) h 11 (by decide)) (by simp [hd])), (fun h => absurd ((p16_ hF.out) h 11 (by decide)) (by simp [hd]))⟩
            refine StepsF.cons (o := _) rfl (ws := [11]) (by kernel_rfl) (by decide) (fun d s b w hF hd hw K_ hK => ?_) ?_
            · have hk : d 15 = false := by cases e : d 15 with | false => rfl | true => exact absurd ((p16_ hF.out) e 12 (by decide)) (by simp [hd])
              have hB : Below wz.heap.size wz w := (p0_ hF.out) hk
              have e11 : s 81 = .pointer (some ⟨S, a16, none⟩) := (p12_ hF.out) (hw 11 (by decide))
              dsimp only
              have oS := HS.out.later hB
              have Sx := oS.at a16 _ V16.out
              clear oS
              go_simp
              exact hK.out (ups (ups s 81 (.pointer (some ⟨S, a16, none⟩))) 82 (.int .u32 x16)) b _ ⟨(fun _ => hB), (p1_ hF.out), (p2_ hF.out), (p3_ hF.out), (p4_ hF.out), (p5_ hF.out), (p6_ hF.out), (p7_ hF.out), (p8_ hF.out), (p9_ hF.out), (p10_ hF.out), (p11_ hF.out), (fun _ => rfl), (fun _ => rfl), (p14_ hF.out), (p15_ hF.out), (fun h => absurd ((p16_ hF.out) h 12 (by decide)) (by simp [hd])), (fun h => absurd ((p16_ hF.out) h 12 (by decide)) (by simp [hd]))⟩
            refine StepsF.cons (o := _) rfl (ws := [8, 12]) (by kernel_rfl) (by decide) (fun d s b w hF hd hw K_ hK => ?_) ?_
            · have hk : d 15 = false := by cases e : d 15 with | false => rfl | true => exact absurd ((p16_ hF.out) e 13 (by decide)) (by simp [hd])
              have hB : Below wz.heap.size wz w := (p0_ hF.out) hk
              have e8 : s 78 = .int .u32 p2 := (p9_ hF.out) (hw 8 (by decide))
              have e12 : s 82 = .int .u32 x16 := (p13_ hF.out) (hw 12 (by decide))
              dsimp only
              go_simp
              exact hK.out (ups (ups (ups s 78 (.int .u32 p2)) 82 (.int .u32 x16)) 83 (.int .u32 p3)) b _ ⟨(fun _ => hB), (p1_ hF.out), (p2_ hF.out), (p3_ hF.out), (p4_ hF.out), (p5_ hF.out), (p6_ hF.out), (p7_ hF.out), (p8_ hF.out), (fun _ => rfl), (p10_ hF.out), (p11_ hF.out), (p12_ hF.out), (fun _ => rfl), (fun _ => rfl), (p15_ hF.out), (fun h => absurd ((p16_ hF.out) h 13 (by decide)) (by simp [hd])), (fun h => absurd ((p16_ hF.out) h 13 (by decide)) (by simp [hd]))⟩
            refine StepsF.cons (o := _) rfl (ws := [0, 0, 1, 2, 3, 4, 5, 6, 7, 8, 9, 10, 11, 12, 13]) (by kernel_rfl) (by decide) (fun d s b w hF hd hw K_ hK => ?_) ?_
            · have hk : d 15 = false := by cases e : d 15 with | false => rfl | true => exact absurd ((p16_ hF.out) e 14 (by decide)) (by simp [hd])
              have hB : Below wz.heap.size wz w := (p0_ hF.out) hk
              have e0 : s 70 = .int .i64 k := (p1_ hF.out) (hw 0 (by decide))
              have e1 : s 71 = .int .u32 s1 := (p2_ hF.out) (hw 1 (by decide))
              have e2 : s 72 = .int .i64 k := (p3_ hF.out) (hw 2 (by decide))
              have e3 : s 73 = .int .i64 a7 := (p4_ hF.out) (hw 3 (by decide))
              have e4 : s 74 = .pointer (some ⟨S, a7, none⟩) := (p5_ hF.out) (hw 4 (by decide))
              have e5 : s 75 = .int .u32 x7 := (p6_ hF.out) (hw 5 (by decide))
              have e6 : s 76 = .int .u32 p1 := (p7_ hF.out) (hw 6 (by decide))
              have e7 : s 77 = .int .u32 s0 := (p8_ hF.out) (hw 7 (by decide))
              have e8 : s 78 = .int .u32 p2 := (p9_ hF.out) (hw 8 (by decide))
              have e9 : s 79 = .int .i64 k := (p10_ hF.out) (hw 9 (by decide))
              have e10 : s 80 = .int .i64 a16 := (p11_ hF.out) (hw 10 (by decide))
              have e11 : s 81 = .pointer (some ⟨S, a16, none⟩) := (p12_ hF.out) (hw 11 (by decide))
              have e12 : s 82 = .int .u32 x16 := (p13_ hF.out) (hw 12 (by decide))
              have e13 : s 83 = .int .u32 p3 := (p14_ hF.out) (hw 13 (by decide))
              dsimp only
              go_simp
              exact hK.out (ups (ups (ups (ups (ups (ups (ups (ups (ups (ups (ups (ups (ups (ups (ups s 70 (.int .i64 k)) 71 (.int .u32 s1)) 72 (.int .i64 k)) 73 (.int .i64 a7)) 74 (.pointer (some ⟨S, a7, none⟩))) 75 (.int .u32 x7)) 76 (.int .u32 p1)) 77 (.int .u32 s0)) 78 (.int .u32 p2)) 79 (.int .i64 k)) 80 (.int .i64 a16)) 81 (.pointer (some ⟨S, a16, none⟩))) 82 (.int .u32 x16)) 83 (.int .u32 p3)) 84 (.pointer (some ⟨S, k, none⟩))) b _ ⟨(fun _ => hB), (fun _ => rfl), (fun _ => rfl), (fun _ => rfl), (fun _ => rfl), (fun _ => rfl), (fun _ => rfl), (fun _ => rfl), (fun _ => rfl), (fun _ => rfl), (fun _ => rfl), (fun _ => rfl), (fun _ => rfl), (fun _ => rfl), (fun _ => rfl), (fun _ => rfl), (fun h => absurd ((p16_ hF.out) h 14 (by decide)) (by simp [hd])), (fun h => absurd ((p16_ hF.out) h 14 (by decide)) (by simp [hd]))⟩
            refine StepsF.cons (o := _) rfl (ws := [14, 13, 0, 1, 2, 3, 4, 5, 6, 7, 8, 9, 10, 11, 12, 13]) (by kernel_rfl) (by decide) (fun d s b w hF hd hw K_ hK => ?_) ?_
            · have hB : Below wz.heap.size wz w := (p0_ hF.out) hd
              have e0 : s 70 = .int .i64 k := (p1_ hF.out) (hw 0 (by decide))
              have e1 : s 71 = .int .u32 s1 := (p2_ hF.out) (hw 1 (by decide))
              have e2 : s 72 = .int .i64 k := (p3_ hF.out) (hw 2 (by decide))
              have e3 : s 73 = .int .i64 a7 := (p4_ hF.out) (hw 3 (by decide))
              have e4 : s 74 = .pointer (some ⟨S, a7, none⟩) := (p5_ hF.out) (hw 4 (by decide))
              have e5 : s 75 = .int .u32 x7 := (p6_ hF.out) (hw 5 (by decide))
              have e6 : s 76 = .int .u32 p1 := (p7_ hF.out) (hw 6 (by decide))
              have e7 : s 77 = .int .u32 s0 := (p8_ hF.out) (hw 7 (by decide))
              have e8 : s 78 = .int .u32 p2 := (p9_ hF.out) (hw 8 (by decide))
              have e9 : s 79 = .int .i64 k := (p10_ hF.out) (hw 9 (by decide))
              have e10 : s 80 = .int .i64 a16 := (p11_ hF.out) (hw 10 (by decide))
              have e11 : s 81 = .pointer (some ⟨S, a16, none⟩) := (p12_ hF.out) (hw 11 (by decide))
              have e12 : s 82 = .int .u32 x16 := (p13_ hF.out) (hw 12 (by decide))
              have e13 : s 83 = .int .u32 p3 := (p14_ hF.out) (hw 13 (by decide))
              have e14 : s 84 = .pointer (some ⟨S, k, none⟩) := (p15_ hF.out) (hw 14 (by decide))
              dsimp only
              have oz := HS.out.later hB
              have fr := oz.ok k (by rw [nums_length]; exact HLT.out)
              have Sc := oz.at k _ (nums_at .u32 _ HLT.out)
              have oX := HS.out.later hB
              clear oX
              go_simp
              exact hK.out (ups (ups (ups (ups (ups (ups (ups (ups (ups (ups (ups (ups (ups (ups (ups s 70 (.int .i64 k)) 71 (.int .u32 s1)) 72 (.int .i64 k)) 73 (.int .i64 a7)) 74 (.pointer (some ⟨S, a7, none⟩))) 75 (.int .u32 x7)) 76 (.int .u32 p1)) 77 (.int .u32 s0)) 78 (.int .u32 p2)) 79 (.int .i64 k)) 80 (.int .i64 a16)) 81 (.pointer (some ⟨S, a16, none⟩))) 82 (.int .u32 x16)) 83 (.int .u32 p3)) 84 (.pointer (some ⟨S, k, none⟩))) b _ ⟨(fun h => nomatch h), (fun _ => rfl), (fun _ => rfl), (fun _ => rfl), (fun _ => rfl), (fun _ => rfl), (fun _ => rfl), (fun _ => rfl), (fun _ => rfl), (fun _ => rfl), (fun _ => rfl), (fun _ => rfl), (fun _ => rfl), (fun _ => rfl), (fun _ => rfl), (fun _ => rfl), (fun _ j hj => by have hj2 := hw j (by simp; omega); simp [upd, hj2]), (fun _ => ⟨w, hB, rfl⟩)⟩
            exact StepsF.nil
          intro d s b yb_ hF hall
          replace hF := Lib.hid hF
          obtain ⟨yb_, hB, rfl⟩ := (q17_ hF.out) (hall 15 (by decide))
          try dsimp only
          have e0 : s 70 = .int .i64 k := (p1_ hF.out) (hall 0 (by decide))
          have e1 : s 71 = .int .u32 s1 := (p2_ hF.out) (hall 1 (by decide))
          have e2 : s 72 = .int .i64 k := (p3_ hF.out) (hall 2 (by decide))
          have e3 : s 73 = .int .i64 a7 := (p4_ hF.out) (hall 3 (by decide))
          have e4 : s 74 = .pointer (some ⟨S, a7, none⟩) := (p5_ hF.out) (hall 4 (by decide))
          have e5 : s 75 = .int .u32 x7 := (p6_ hF.out) (hall 5 (by decide))
          have e6 : s 76 = .int .u32 p1 := (p7_ hF.out) (hall 6 (by decide))
          have e7 : s 77 = .int .u32 s0 := (p8_ hF.out) (hall 7 (by decide))
          have e8 : s 78 = .int .u32 p2 := (p9_ hF.out) (hall 8 (by decide))
          have e9 : s 79 = .int .i64 k := (p10_ hF.out) (hall 9 (by decide))
          have e10 : s 80 = .int .i64 a16 := (p11_ hF.out) (hall 10 (by decide))
          have e11 : s 81 = .pointer (some ⟨S, a16, none⟩) := (p12_ hF.out) (hall 11 (by decide))
          have e12 : s 82 = .int .u32 x16 := (p13_ hF.out) (hall 12 (by decide))
          have e13 : s 83 = .int .u32 p3 := (p14_ hF.out) (hall 13 (by decide))
          have e14 : s 84 = .pointer (some ⟨S, k, none⟩) := (p15_ hF.out) (hall 14 (by decide))
          rw [e0, e1, e2, e3, e4, e5, e6, e7, e8, e9, e10, e11, e12, e13, e14]
          clear hall hF e0 e1 e2 e3 e4 e5 e6 e7 e8 e9 e10 e11 e12 e13 e14
          clear d s b
          have XF := Lib.hid (show nums .u32 (at1 (sch bf k) k p3) 64 = nums .u32 (sch bf (k + 1)) 64 by
            rw [XN.out, E.out])
          have O1 := Lib.hid (XF.out ▸ own_set (v := p3) (HS.out.later hB) HLT.out)
          have O3 := Lib.hid (Own.far (c := S) (o := k) (vs := [.int .u32 p3]) (HR.out.later hB) nRS)
          have O4 := Lib.hid (Below.setCells (Below.go HB.out hB) Sw [.int .u32 p3] k)
          clear HR HS HB hB E XE XF XN
          go_wp2_with (fail)
          go_roundw
          case rel => (first | exact ⟨k + 1, Nat.le_succ_of_le H16.out, HLT.out, by go_num, O4, O3, O1⟩ | ((repeat apply Exists.intro); exact ⟨⟨k + 1, Nat.le_succ_of_le H16.out, HLT.out, by go_num, O4, O3, O1⟩, rfl⟩))
          case measure => (have := HLT.out; simp [intOf]; omega)
        · have e64 : k = 64 := by omega
          subst e64
          clear hlt hk hk16
          go_upto_region 15 with fail
          have hB0 := HB.out
          refine wp_region_lit ?_
          refine wpList_load_mid rfl 32 _ rfl S 0 rfl (nums .u32 (sch bf 64) 64) _ HS.out.cell Tryd.underlying32 rfl (by kernel_rfl) ?_
          refine wpList_store_mid rfl 32 _ _ rfl R 0 (nums .u32 (sch bf 64) 64).toArray rfl rfl HR.out.free (by kernel_rfl) (nums_all _ _ _) ?_
          change wpList _ _ _ [] _ (wr.setCells R 0 (nums .u32 (sch bf 64) 64))
          have HRn : Hid (Own R (nums .u32 (sch bf 64) 64) (wr.setCells R 0 (nums .u32 (sch bf 64) 64))) := Lib.hid (Own.store HR.out (by simp [nums_length]))
          have HSn : Hid (Own S (nums .u32 (sch bf 64) 64) (wr.setCells R 0 (nums .u32 (sch bf 64) 64))) := Lib.hid (Own.far (o := 0) (vs := (nums .u32 (sch bf 64) 64)) HS.out nSR)
          have hB0n : Below w.heap.size w (wr.setCells R 0 (nums .u32 (sch bf 64) 64)) := Below.setCells hB0 Rw (nums .u32 (sch bf 64) 64) 0
          clear HR HS hB0
          generalize (wr.setCells R 0 (nums .u32 (sch bf 64) 64)) = wz at *
          have HR := HRn
          clear HRn
          have HS := HSn
          clear HSn
          have hB0 := hB0n
          clear hB0n
          go_wp2_with (fail)
          have hL := run_loadVar_mid (P := Tryd.prog) _ R 0 32 (nums .u32 (sch bf 64) 64) _ HR.out.cell Tryd.underlying32 rfl (by kernel_rfl)
          exact bodyPost_ret (v := .agg (nums .u32 (sch bf 64) 64).toArray) (res_cell Tryd.results26 rfl hL) rfl ⟨rfl, hB0⟩
end Go.Proofs.YtajejlaoompieaaDoor
