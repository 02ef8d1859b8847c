/- PolyBlocks: the walk. -/
import Derived.Test.YtljngnemiaklhaaNX
import Derived.Test.YtljngnemiaklhaaNK
import Derived.Lib.Hide
import Derived.Deep.QuietTactic
namespace Go.Proofs.Ytljngnemiaklhaa
set_option linter.unusedVariables false
set_option maxRecDepth 2000
set_option linter.unusedSimpArgs false
open Go.RowKit
theorem ByG.same {w w' : World} {q : Option Addr} {n B : Nat} {f : Nat → Int} (h : ByG w q n f B) (hb : Below w.heap.size w w') : ByG w' q n f B := h.later hb
/-- one row's block -/
theorem ByG.blk {w : World} {p : Option Addr} {m N B k : Nat} {f : Nat → Int} (h : ByG w p (m * 17) (rowF f N) B) (hk : k < m) : ∃ G, p = some ⟨G, 0, none⟩ ∧ Has G (k * 17) (nums .u8 (blkB f N k) 17) w := by
  obtain ⟨G, h1, _, h3⟩ := h.resolve_left (by omega)
  refine ⟨G, h1, ?_⟩
  have h := has_drop h3 (show k * 17 + 17 ≤ m * 17 by have := Nat.mul_le_mul_right 17 (show k + 1 ≤ m from hk); omega)
  rwa [Nat.zero_add, nums_congr (g := blkB f N k) .u8 (fun j hj => rowF_at f N k j hj)] at h
/-- a load of a whole array, in a region that only reads -/
theorem quiet_load {P : Program} {w : World} {ty : TypeId} {b off : Nat} (cs : List Value) (d : TypeDesc) (hc : w.rangeAt b off cs) (hu : P.underlying ty = some d) (hd : d.isRow = true) (hi : (P.info? ty).map (·.size) = some cs.length) :
    (loadVar ty ⟨b, off, none⟩).run P w = .ok (.agg cs.toArray) w := run_loadVar_mid (P := P) w b off ty cs d hc hu hd hi
attribute [local go_sem] nums_length

set_option maxHeartbeats 4000000 in
theorem Blocks_law (f f0 : Nat → Int) (p : Option Addr) (n c m N : Nat) (e : (if 300 < (n : Int) then 300 else (n : Int)) = (N : Int)) (hm : m = (N + 15) / 16) (hf0 : ∀ i, i < 16 → inB (f0 i)) (hnc : n ≤ c) (hc : c ≤ 9223372036854775807) (w : World) (hb : Byt w p N f) :
    Calls Try.prog 3 #[.slice p n c, (.agg (nums .u8 f0 16).toArray)] w fun e w' => e = .returned (.bool true) ∧ Below w.heap.size w w' := by
  have hmn : N ≤ n := by split at e <;> omega
  have hm3 : N ≤ 300 := by split at e <;> omega
  have FW := Lib.hid (fun w => few_any p n c N e (by omega) w)
  have BA := Lib.hid (fun w hb => Blocks_any f p N c N m (by rw [if_neg (by omega)]) (by omega) hc hm w hb)
  have BR := Lib.hid (fun w hb => RBlocks_any f p N c m (by omega) (by omega) hc hm w hb)
  have CA := Lib.hid (fun w => Clamp_any f0 hf0 w)
  have CR := Lib.hid (fun w => RClamp_any f0 hf0 w)
  have EQ := Lib.hid (fun w => eq16 (clampF f0) (clampF f0) w)
  rw [eqB_self] at EQ
  have E7 := Lib.hid (fun g w => eq17 g g w)
  have M3 := Lib.hid (show m ≤ 19 by omega)
  have BY0 := Lib.hid hb
  clear e hm hf0 hnc hc hmn hm3 hb
  go_enter Try.func3, Try.ntmps3
  go_upto_region 1 with fail
  obtain ⟨W0, hW⟩ : ∃ W0, W0 = (w.alloc (.cells (nums .u8 f0 16).toArray 23)) := ⟨_, rfl⟩
  have hB0 : Below w.heap.size w W0 := hW ▸ (Below.al (Below.refl _ _))
  have HY : Hid (Own w.heap.size (nums .u8 f0 16) W0) := Lib.hid (hW ▸ (show Own w.heap.size (nums .u8 f0 16) (w.alloc (.cells (nums .u8 f0 16).toArray 23)) from Own.newAt (by simp)))
  rw [← hW]
  clear hW
  obtain ⟨Y, eY⟩ : ∃ X, X = w.heap.size := ⟨_, rfl⟩
  rw [← eY] at HY ⊢
  have Yw : w.heap.size ≤ Y := by omega
  clear eY
  have BY := Lib.hid (BY0.out.later hB0)
  clear BY0
  go_wp2_with (fail)
  go_at_call 11
  refine (FW.out _).mono ?_
  rintro e w1 ⟨rfl, hb⟩
  replace HY := Lib.hid (HY.out.later hb)
  replace BY := Lib.hid (BY.out.later hb)
  have hBn := Below.go hB0 hb
  clear hB0 hb
  have hB0 := hBn
  clear hBn
  go_wp2_with (fail)
  go_at_call 10
  refine (BA.out _ BY.out).mono ?_
  rintro e w2 ⟨v, rfl, hrow, hb⟩
  obtain ⟨p1, c1, rfl, hc1⟩ := row_form hrow
  have R1 := Lib.hid (row_byg hrow)
  have C1 := Lib.hid hc1
  clear hrow hc1
  replace HY := Lib.hid (HY.out.later hb)
  replace BY := Lib.hid (BY.out.later hb)
  have hBn := Below.go hB0 hb
  clear hB0 hb
  have hB0 := hBn
  clear hBn
  go_wp2_with (fail)
  go_at_call 11
  refine (FW.out _).mono ?_
  rintro e w3 ⟨rfl, hb⟩
  replace HY := Lib.hid (HY.out.later hb)
  replace BY := Lib.hid (BY.out.later hb)
  replace R1 := Lib.hid (R1.out.later hb)
  have hBn := Below.go hB0 hb
  clear hB0 hb
  have hB0 := hBn
  clear hBn
  go_wp2_with (fail)
  go_at_call 12
  refine (BR.out _ BY.out).mono ?_
  rintro e w4 ⟨v, rfl, hrow, hb⟩
  obtain ⟨p2, c2, rfl, hc2⟩ := row_form hrow
  have R2 := Lib.hid (row_byg hrow)
  have C2 := Lib.hid hc2
  clear hrow hc2
  replace HY := Lib.hid (HY.out.later hb)
  replace BY := Lib.hid (BY.out.later hb)
  replace R1 := Lib.hid (R1.out.later hb)
  have hBn := Below.go hB0 hb
  clear hB0 hb
  have hB0 := hBn
  clear hBn
  have HB := Lib.hid hB0
  clear hB0 BY
  go_wp2_with (fail)
  go_loopw [21] (fun iv wr => ∃ (k : Nat), k ≤ m ∧ iv = .int .i64 k ∧ Hid (Below w.heap.size w wr) ∧ Hid (Own Y (nums .u8 f0 16) wr) ∧ Hid (ByG wr p1 (m * 17) (rowF f N) w1.heap.size) ∧ Hid (ByG wr p2 (m * 17) (rowF f N) w3.heap.size)) (fun iv _ => (m - (intOf iv).toNat))
  case atStart => exact ⟨0, Nat.zero_le _, rfl, HB, HY, R1, R2⟩
  case round =>
    clear HB HY R1 R2
    obtain ⟨k, hk, rfl, HB, HY, R1, R2⟩ := hrel
    by_cases hlt : k < m
    · obtain ⟨G1, rfl, h1⟩ := R1.out.blk hlt
      obtain ⟨G2, rfl, h2⟩ := R2.out.blk hlt
      have k0 : (0 : Int) ≤ (k : Int) := by omega
      have k1 : (k : Int) < (m : Int) := by omega
      have k63 : IntKind.i64.wrap ((k : Int) + 1) = (k : Int) + 1 := IntWalk.i64_in _ (by have := M3.out; omega)
      have H1 := Lib.hid h1; have H2 := Lib.hid h2
      have HK := Lib.hid hlt
      have l1 : ∀ q, (loadVar 27 ⟨G1, k * 17, none⟩).run Try.prog (wr.drewN q) = .ok (.agg (nums .u8 (blkB f N k) 17).toArray) (wr.drewN q) := fun q => quiet_load (nums .u8 (blkB f N k) 17) _ (h1.later (below_drewN (Below.refl _ _) q)).cell Try.underlying27 rfl (by kernel_rfl)
      have l2 : ∀ q, (loadVar 27 ⟨G2, k * 17, none⟩).run Try.prog (wr.drewN q) = .ok (.agg (nums .u8 (blkB f N k) 17).toArray) (wr.drewN q) := fun q => quiet_load (nums .u8 (blkB f N k) 17) _ (h2.later (below_drewN (Below.refl _ _) q)).cell Try.underlying27 rfl (by kernel_rfl)
      have EB := E7.out (blkB f N k)
      rw [eqB_self] at EB
      clear h1 h2 hk hlt
      clear l1 l2
      go_wp2_with (fail)
      refine wp_region_fun 9 (by kernel_rfl) (by kernel_rfl) rfl (fun s b => ⟨#[.slice p n c, .agg (nums .u8 f0 16).toArray, undef, .pointer (some ⟨Y, 0, none⟩), u4, .slice (some ⟨G1, 0, none⟩) m c1, .slice (some ⟨G2, 0, none⟩) m c2, .int .i64 k, .slice p n c, .slice p N c, .slice (some ⟨G1, 0, none⟩) m c1, .slice p n c, .slice p N c, .slice (some ⟨G2, 0, none⟩) m c2, .slice (some ⟨G1, 0, none⟩) m c1, .int .i64 m, .slice (some ⟨G2, 0, none⟩) m c2, .int .i64 m, .bool false, .slice (some ⟨G1, 0, none⟩) m c1, .int .i64 m, .int .i64 k, .bool true, .int .i64 k, s 24, s 25, s 26, s 27, s 28, s 29, s 30, s 31, s 32, u33, undef, undef, undef, undef, undef, undef, undef, undef], []⟩) (fun d s b w => (Below wr.heap.size wr w) ∧ (d 0 = true → s 24 = .slice (some ⟨G1, 0, none⟩) m c1) ∧ (d 1 = true → s 25 = .int .i64 k) ∧ (d 2 = true → s 26 = .pointer (some ⟨G1, (k * 17), none⟩)) ∧ (d 3 = true → s 27 = .agg (nums .u8 (blkB f N k) 17).toArray) ∧ (d 4 = true → s 28 = .slice (some ⟨G2, 0, none⟩) m c2) ∧ (d 5 = true → s 29 = .int .i64 k) ∧ (d 6 = true → s 30 = .pointer (some ⟨G2, (k * 17), none⟩)) ∧ (d 7 = true → s 31 = .agg (nums .u8 (blkB f N k) 17).toArray) ∧ (d 8 = true → s 32 = .bool false)) rfl ?h0z1 (?stz1 : StepsF _ _ _ _ 9 _ _ [0, 1, 2, 3, 4, 5, 6, 7, 8]) ?dnz1
      case h0z1 => exact ⟨Below.drew (Below.refl _ _), (fun h => nomatch h), (fun h => nomatch h), (fun h => nomatch h), (fun h => nomatch h), (fun h => nomatch h), (fun h => nomatch h), (fun h => nomatch h), (fun h => nomatch h), (fun h => nomatch h)⟩
      case stz1 =>
        refine StepsF.cons (o := _) rfl (ws := []) (by kernel_rfl) (by decide) (fun d s b w hF hd hw K_ hK => ?_) ?_
        · have hB : Below wr.heap.size wr w := (p0_ hF.out)
          dsimp only
          go_simp
          exact hK.out (ups s 24 (.slice (some ⟨G1, 0, none⟩) m c1)) b _ ⟨hB, (fun _ => rfl), (p2_ hF.out), (p3_ hF.out), (p4_ hF.out), (p5_ hF.out), (p6_ hF.out), (p7_ hF.out), (p8_ hF.out), (q9_ hF.out)⟩
        refine StepsF.cons (o := _) rfl (ws := []) (by kernel_rfl) (by decide) (fun d s b w hF hd hw K_ hK => ?_) ?_
        · have hB : Below wr.heap.size wr w := (p0_ hF.out)
          dsimp only
          go_simp
          exact hK.out (ups s 25 (.int .i64 k)) b _ ⟨hB, (p1_ hF.out), (fun _ => rfl), (p3_ hF.out), (p4_ hF.out), (p5_ hF.out), (p6_ hF.out), (p7_ hF.out), (p8_ hF.out), (q9_ hF.out)⟩
        refine StepsF.cons (o := _) rfl (ws := [0, 1]) (by kernel_rfl) (by decide) (fun d s b w hF hd hw K_ hK => ?_) ?_
        · have hB : Below wr.heap.size wr w := (p0_ hF.out)
          have e0 : s 24 = .slice (some ⟨G1, 0, none⟩) m c1 := (p1_ hF.out) (hw 0 (by decide))
          have e1 : s 25 = .int .i64 k := (p2_ hF.out) (hw 1 (by decide))
          dsimp only
          go_simp
          exact hK.out (ups (ups (ups s 24 (.slice (some ⟨G1, 0, none⟩) m c1)) 25 (.int .i64 k)) 26 (.pointer (some ⟨G1, (k * 17), none⟩))) b _ ⟨hB, (fun _ => rfl), (fun _ => rfl), (fun _ => rfl), (p4_ hF.out), (p5_ hF.out), (p6_ hF.out), (p7_ hF.out), (p8_ hF.out), (q9_ hF.out)⟩
        refine StepsF.cons (o := _) rfl (ws := [2]) (by kernel_rfl) (by decide) (fun d s b w hF hd hw K_ hK => ?_) ?_
        · have hB : Below wr.heap.size wr w := (p0_ hF.out)
          have e2 : s 26 = .pointer (some ⟨G1, (k * 17), none⟩) := (p3_ hF.out) (hw 2 (by decide))
          refine step_load (by simp [Region.wanted]) 27 _ rfl G1 (k * 17) e2 (nums .u8 (blkB f N k) 17) _ (H1.out.later hB).cell Try.underlying27 rfl (by kernel_rfl) ?_
          exact hK.out (ups s 27 (.agg (nums .u8 (blkB f N k) 17).toArray)) b _ ⟨hB, (p1_ hF.out), (p2_ hF.out), (p3_ hF.out), (fun _ => rfl), (p5_ hF.out), (p6_ hF.out), (p7_ hF.out), (p8_ hF.out), (q9_ hF.out)⟩
        refine StepsF.cons (o := _) rfl (ws := []) (by kernel_rfl) (by decide) (fun d s b w hF hd hw K_ hK => ?_) ?_
        · have hB : Below wr.heap.size wr w := (p0_ hF.out)
          dsimp only
          go_simp
          exact hK.out (ups s 28 (.slice (some ⟨G2, 0, none⟩) m c2)) b _ ⟨hB, (p1_ hF.out), (p2_ hF.out), (p3_ hF.out), (p4_ hF.out), (fun _ => rfl), (p6_ hF.out), (p7_ hF.out), (p8_ hF.out), (q9_ hF.out)⟩
        refine StepsF.cons (o := _) rfl (ws := []) (by kernel_rfl) (by decide) (fun d s b w hF hd hw K_ hK => ?_) ?_
        · have hB : Below wr.heap.size wr w := (p0_ hF.out)
          dsimp only
          go_simp
          exact hK.out (ups s 29 (.int .i64 k)) b _ ⟨hB, (p1_ hF.out), (p2_ hF.out), (p3_ hF.out), (p4_ hF.out), (p5_ hF.out), (fun _ => rfl), (p7_ hF.out), (p8_ hF.out), (q9_ hF.out)⟩
        refine StepsF.cons (o := _) rfl (ws := [4, 5]) (by kernel_rfl) (by decide) (fun d s b w hF hd hw K_ hK => ?_) ?_
        · have hB : Below wr.heap.size wr w := (p0_ hF.out)
          have e4 : s 28 = .slice (some ⟨G2, 0, none⟩) m c2 := (p5_ hF.out) (hw 4 (by decide))
          have e5 : s 29 = .int .i64 k := (p6_ hF.out) (hw 5 (by decide))
          dsimp only
          go_simp
          exact hK.out (ups (ups (ups s 28 (.slice (some ⟨G2, 0, none⟩) m c2)) 29 (.int .i64 k)) 30 (.pointer (some ⟨G2, (k * 17), none⟩))) b _ ⟨hB, (p1_ hF.out), (p2_ hF.out), (p3_ hF.out), (p4_ hF.out), (fun _ => rfl), (fun _ => rfl), (fun _ => rfl), (p8_ hF.out), (q9_ hF.out)⟩
        refine StepsF.cons (o := _) rfl (ws := [6]) (by kernel_rfl) (by decide) (fun d s b w hF hd hw K_ hK => ?_) ?_
        · have hB : Below wr.heap.size wr w := (p0_ hF.out)
          have e6 : s 30 = .pointer (some ⟨G2, (k * 17), none⟩) := (p7_ hF.out) (hw 6 (by decide))
          refine step_load (by simp [Region.wanted]) 27 _ rfl G2 (k * 17) e6 (nums .u8 (blkB f N k) 17) _ (H2.out.later hB).cell Try.underlying27 rfl (by kernel_rfl) ?_
          exact hK.out (ups s 31 (.agg (nums .u8 (blkB f N k) 17).toArray)) b _ ⟨hB, (p1_ hF.out), (p2_ hF.out), (p3_ hF.out), (p4_ hF.out), (p5_ hF.out), (p6_ hF.out), (p7_ hF.out), (fun _ => rfl), (q9_ hF.out)⟩
        refine StepsF.cons (o := _) rfl (ws := [3, 7]) (by kernel_rfl) (by decide) (fun d s b w hF hd hw K_ hK => ?_) ?_
        · have hB : Below wr.heap.size wr w := (p0_ hF.out)
          have e3 : s 27 = .agg (nums .u8 (blkB f N k) 17).toArray := (p4_ hF.out) (hw 3 (by decide))
          have e7 : s 31 = .agg (nums .u8 (blkB f N k) 17).toArray := (p8_ hF.out) (hw 7 (by decide))
          dsimp only
          have hq := EB w
          go_simp
          exact hK.out (ups (ups (ups s 27 (.agg (nums .u8 (blkB f N k) 17).toArray)) 31 (.agg (nums .u8 (blkB f N k) 17).toArray)) 32 (.bool false)) b _ ⟨hB, (p1_ hF.out), (p2_ hF.out), (p3_ hF.out), (fun _ => rfl), (p5_ hF.out), (p6_ hF.out), (p7_ hF.out), (fun _ => rfl), (fun _ => rfl)⟩
        exact StepsF.nil
      intro d s b z1 hF hall
      replace hF := Lib.hid hF
      have hB : Below wr.heap.size wr z1 := (p0_ hF.out)
      try dsimp only
      have e0 : s 24 = .slice (some ⟨G1, 0, none⟩) m c1 := (p1_ hF.out) (hall 0 (by decide))
      have e1 : s 25 = .int .i64 k := (p2_ hF.out) (hall 1 (by decide))
      have e2 : s 26 = .pointer (some ⟨G1, (k * 17), none⟩) := (p3_ hF.out) (hall 2 (by decide))
      have e3 : s 27 = .agg (nums .u8 (blkB f N k) 17).toArray := (p4_ hF.out) (hall 3 (by decide))
      have e4 : s 28 = .slice (some ⟨G2, 0, none⟩) m c2 := (p5_ hF.out) (hall 4 (by decide))
      have e5 : s 29 = .int .i64 k := (p6_ hF.out) (hall 5 (by decide))
      have e6 : s 30 = .pointer (some ⟨G2, (k * 17), none⟩) := (p7_ hF.out) (hall 6 (by decide))
      have e7 : s 31 = .agg (nums .u8 (blkB f N k) 17).toArray := (p8_ hF.out) (hall 7 (by decide))
      have e8 : s 32 = .bool false := (q9_ hF.out) (hall 8 (by decide))
      rw [e0, e1, e2, e3, e4, e5, e6, e7, e8]
      clear hall hF e0 e1 e2 e3 e4 e5 e6 e7 e8
      clear d s b
      have o1 := Lib.hid (Below.go HB.out hB)
      have o2 := Lib.hid (HY.out.later hB)
      have o3 := Lib.hid (R1.out.later hB)
      have o4 := Lib.hid (R2.out.later hB)
      clear HB HY R1 R2 hB H1 H2
      go_wp2_with (fail)
      go_roundw
      case rel => (first | exact ⟨k + 1, HK.out, by go_num, o1, o2, o3, o4⟩ | ((repeat apply Exists.intro); exact ⟨⟨k + 1, HK.out, by go_num, o1, o2, o3, o4⟩, rfl⟩))
      case measure => (have := HK.out; simp [intOf]; omega)
    · have hkm : k = m := by omega
      subst hkm
      clear hk hlt
      go_wp2_with (fail)
      refine wp_region_fun 9 (by kernel_rfl) (by kernel_rfl) rfl (fun s b => ⟨#[.slice p n c, .agg (nums .u8 f0 16).toArray, undef, .pointer (some ⟨Y, 0, none⟩), s 4, .slice p1 k c1, .slice p2 k c2, u7, .slice p n c, .slice p N c, .slice p1 k c1, .slice p n c, .slice p N c, .slice p2 k c2, .slice p1 k c1, .int .i64 k, .slice p2 k c2, .int .i64 k, .bool false, .slice p1 k c1, .int .i64 k, .int .i64 k, .bool false, u23, u24, u25, u26, u27, u28, u29, u30, u31, u32, u33, s 34, s 35, s 36, s 37, s 38, s 39, s 40, s 41], []⟩) (fun d s b w => (Below wr.heap.size wr w) ∧ (d 0 = true → s 34 = .agg (nums .u8 f0 16).toArray) ∧ (d 1 = true → s 35 = .agg (nums .u8 (clampF f0) 16).toArray) ∧ (d 2 = true → s 36 = .agg (nums .u8 f0 16).toArray) ∧ (d 3 = true → s 37 = .agg (nums .u8 (clampF f0) 16).toArray) ∧ (d 4 = true → s 38 = .bool true) ∧ (d 5 = true → s 39 = .bool true) ∧ (d 6 = true → s 40 = .bool true) ∧ (d 7 = true → s 41 = .bool true) ∧ (d 8 = true → s 4 = .bool true)) rfl ?h0z2 (?stz2 : StepsF _ _ _ _ 9 _ _ [0, 1, 2, 3, 4, 5, 6, 7, 8]) ?dnz2
      case h0z2 => exact ⟨Below.drew (Below.refl _ _), (fun h => nomatch h), (fun h => nomatch h), (fun h => nomatch h), (fun h => nomatch h), (fun h => nomatch h), (fun h => nomatch h), (fun h => nomatch h), (fun h => nomatch h), (fun h => nomatch h)⟩
      case stz2 =>
        refine StepsF.cons (o := _) rfl (ws := []) (by kernel_rfl) (by decide) (fun d s b w hF hd hw K_ hK => ?_) ?_
        · have hB : Below wr.heap.size wr w := (p0_ hF.out)
          refine step_load (by simp [Region.wanted]) 23 _ rfl Y 0 rfl (nums .u8 f0 16) _ (HY.out.later hB).cell Try.underlying23 rfl (by kernel_rfl) ?_
          exact hK.out (ups s 34 (.agg (nums .u8 f0 16).toArray)) b _ ⟨hB, (fun _ => rfl), (p2_ hF.out), (p3_ hF.out), (p4_ hF.out), (p5_ hF.out), (p6_ hF.out), (p7_ hF.out), (p8_ hF.out), (q9_ hF.out)⟩
        refine StepsF.cons (o := _) rfl (ws := [0]) (by kernel_rfl) (by decide) (fun d s b w hF hd hw K_ hK => ?_) ?_
        · have hB : Below wr.heap.size wr w := (p0_ hF.out)
          have e0 : s 34 = .agg (nums .u8 f0 16).toArray := (p1_ hF.out) (hw 0 (by decide))
          dsimp only
          go_simp
          go_at_call 13
          refine (CA.out _).mono ?_
          rintro e w1 ⟨rfl, hb⟩
          exact hK.out (ups (ups s 34 (.agg (nums .u8 f0 16).toArray)) 35 (.agg (nums .u8 (clampF f0) 16).toArray)) b _ ⟨(Below.go hB hb), (fun _ => rfl), (fun _ => rfl), (p3_ hF.out), (p4_ hF.out), (p5_ hF.out), (p6_ hF.out), (p7_ hF.out), (p8_ hF.out), (q9_ hF.out)⟩
        refine StepsF.cons (o := _) rfl (ws := []) (by kernel_rfl) (by decide) (fun d s b w hF hd hw K_ hK => ?_) ?_
        · have hB : Below wr.heap.size wr w := (p0_ hF.out)
          refine step_load (by simp [Region.wanted]) 23 _ rfl Y 0 rfl (nums .u8 f0 16) _ (HY.out.later hB).cell Try.underlying23 rfl (by kernel_rfl) ?_
          exact hK.out (ups s 36 (.agg (nums .u8 f0 16).toArray)) b _ ⟨hB, (p1_ hF.out), (p2_ hF.out), (fun _ => rfl), (p4_ hF.out), (p5_ hF.out), (p6_ hF.out), (p7_ hF.out), (p8_ hF.out), (q9_ hF.out)⟩
        refine StepsF.cons (o := _) rfl (ws := [2, 1]) (by kernel_rfl) (by decide) (fun d s b w hF hd hw K_ hK => ?_) ?_
        · have hB : Below wr.heap.size wr w := (p0_ hF.out)
          have e1 : s 35 = .agg (nums .u8 (clampF f0) 16).toArray := (p2_ hF.out) (hw 1 (by decide))
          have e2 : s 36 = .agg (nums .u8 f0 16).toArray := (p3_ hF.out) (hw 2 (by decide))
          dsimp only
          go_simp
          go_at_call 14
          refine (CR.out _).mono ?_
          rintro e w1 ⟨rfl, hb⟩
          exact hK.out (ups (ups (ups s 35 (.agg (nums .u8 (clampF f0) 16).toArray)) 36 (.agg (nums .u8 f0 16).toArray)) 37 (.agg (nums .u8 (clampF f0) 16).toArray)) b _ ⟨(Below.go hB hb), (p1_ hF.out), (fun _ => rfl), (fun _ => rfl), (fun _ => rfl), (p5_ hF.out), (p6_ hF.out), (p7_ hF.out), (p8_ hF.out), (q9_ hF.out)⟩
        refine StepsF.cons (o := _) rfl (ws := [1, 3]) (by kernel_rfl) (by decide) (fun d s b w hF hd hw K_ hK => ?_) ?_
        · have hB : Below wr.heap.size wr w := (p0_ hF.out)
          have e1 : s 35 = .agg (nums .u8 (clampF f0) 16).toArray := (p2_ hF.out) (hw 1 (by decide))
          have e3 : s 37 = .agg (nums .u8 (clampF f0) 16).toArray := (p4_ hF.out) (hw 3 (by decide))
          dsimp only
          have hq := EQ.out w
          go_simp
          exact hK.out (ups (ups (ups s 35 (.agg (nums .u8 (clampF f0) 16).toArray)) 37 (.agg (nums .u8 (clampF f0) 16).toArray)) 38 (.bool true)) b _ ⟨hB, (p1_ hF.out), (fun _ => rfl), (p3_ hF.out), (fun _ => rfl), (fun _ => rfl), (p6_ hF.out), (p7_ hF.out), (p8_ hF.out), (q9_ hF.out)⟩
        refine StepsF.cons (o := _) rfl (ws := [4, 3]) (by kernel_rfl) (by decide) (fun d s b w hF hd hw K_ hK => ?_) ?_
        · have hB : Below wr.heap.size wr w := (p0_ hF.out)
          have e3 : s 37 = .agg (nums .u8 (clampF f0) 16).toArray := (p4_ hF.out) (hw 3 (by decide))
          have e4 : s 38 = .bool true := (p5_ hF.out) (hw 4 (by decide))
          dsimp only
          go_simp
          exact hK.out (ups (ups (ups s 37 (.agg (nums .u8 (clampF f0) 16).toArray)) 38 (.bool true)) 39 (.bool true)) b _ ⟨hB, (p1_ hF.out), (p2_ hF.out), (p3_ hF.out), (fun _ => rfl), (fun _ => rfl), (fun _ => rfl), (p7_ hF.out), (p8_ hF.out), (q9_ hF.out)⟩
        refine StepsF.cons (o := _) rfl (ws := [5, 5]) (by kernel_rfl) (by decide) (fun d s b w hF hd hw K_ hK => ?_) ?_
        · have hB : Below wr.heap.size wr w := (p0_ hF.out)
          have e5 : s 39 = .bool true := (p6_ hF.out) (hw 5 (by decide))
          dsimp only
          go_simp
          go_at_call 15
          refine (works_any _).mono ?_
          rintro e w1 ⟨rfl, hb⟩
          exact hK.out (ups (ups s 39 (.bool true)) 40 (.bool true)) b _ ⟨(Below.go hB hb), (p1_ hF.out), (p2_ hF.out), (p3_ hF.out), (p4_ hF.out), (p5_ hF.out), (fun _ => rfl), (fun _ => rfl), (p8_ hF.out), (q9_ hF.out)⟩
        refine StepsF.cons (o := _) rfl (ws := [5, 6]) (by kernel_rfl) (by decide) (fun d s b w hF hd hw K_ hK => ?_) ?_
        · have hB : Below wr.heap.size wr w := (p0_ hF.out)
          have e5 : s 39 = .bool true := (p6_ hF.out) (hw 5 (by decide))
          have e6 : s 40 = .bool true := (p7_ hF.out) (hw 6 (by decide))
          dsimp only
          go_simp
          exact hK.out (ups (ups (ups s 39 (.bool true)) 40 (.bool true)) 41 (.bool true)) b _ ⟨hB, (p1_ hF.out), (p2_ hF.out), (p3_ hF.out), (p4_ hF.out), (p5_ hF.out), (fun _ => rfl), (fun _ => rfl), (fun _ => rfl), (q9_ hF.out)⟩
        refine StepsF.cons (o := _) rfl (ws := [7, 6, 0, 1, 2, 3, 4, 5, 6, 7]) (by kernel_rfl) (by decide) (fun d s b w hF hd hw K_ hK => ?_) ?_
        · have hB : Below wr.heap.size wr w := (p0_ hF.out)
          have e0 : s 34 = .agg (nums .u8 f0 16).toArray := (p1_ hF.out) (hw 0 (by decide))
          have e1 : s 35 = .agg (nums .u8 (clampF f0) 16).toArray := (p2_ hF.out) (hw 1 (by decide))
          have e2 : s 36 = .agg (nums .u8 f0 16).toArray := (p3_ hF.out) (hw 2 (by decide))
          have e3 : s 37 = .agg (nums .u8 (clampF f0) 16).toArray := (p4_ hF.out) (hw 3 (by decide))
          have e4 : s 38 = .bool true := (p5_ hF.out) (hw 4 (by decide))
          have e5 : s 39 = .bool true := (p6_ hF.out) (hw 5 (by decide))
          have e6 : s 40 = .bool true := (p7_ hF.out) (hw 6 (by decide))
          have e7 : s 41 = .bool true := (p8_ hF.out) (hw 7 (by decide))
          dsimp only
          go_simp
          exact hK.out (ups (ups (ups (ups (ups (ups (ups (ups (ups s 34 (.agg (nums .u8 f0 16).toArray)) 35 (.agg (nums .u8 (clampF f0) 16).toArray)) 36 (.agg (nums .u8 f0 16).toArray)) 37 (.agg (nums .u8 (clampF f0) 16).toArray)) 38 (.bool true)) 39 (.bool true)) 40 (.bool true)) 41 (.bool true)) 4 (.bool true)) b _ ⟨hB, (fun _ => rfl), (fun _ => rfl), (fun _ => rfl), (fun _ => rfl), (fun _ => rfl), (fun _ => rfl), (fun _ => rfl), (fun _ => rfl), (fun _ => rfl)⟩
        exact StepsF.nil
      intro d s b z2 hF hall
      replace hF := Lib.hid hF
      have hB : Below wr.heap.size wr z2 := (p0_ hF.out)
      try dsimp only
      have e0 : s 34 = .agg (nums .u8 f0 16).toArray := (p1_ hF.out) (hall 0 (by decide))
      have e1 : s 35 = .agg (nums .u8 (clampF f0) 16).toArray := (p2_ hF.out) (hall 1 (by decide))
      have e2 : s 36 = .agg (nums .u8 f0 16).toArray := (p3_ hF.out) (hall 2 (by decide))
      have e3 : s 37 = .agg (nums .u8 (clampF f0) 16).toArray := (p4_ hF.out) (hall 3 (by decide))
      have e4 : s 38 = .bool true := (p5_ hF.out) (hall 4 (by decide))
      have e5 : s 39 = .bool true := (p6_ hF.out) (hall 5 (by decide))
      have e6 : s 40 = .bool true := (p7_ hF.out) (hall 6 (by decide))
      have e7 : s 41 = .bool true := (p8_ hF.out) (hall 7 (by decide))
      have e8 : s 4 = .bool true := (q9_ hF.out) (hall 8 (by decide))
      rw [e0, e1, e2, e3, e4, e5, e6, e7, e8]
      clear hall hF e0 e1 e2 e3 e4 e5 e6 e7 e8
      clear d s b
      go_wp2_with (fail)
      go_ret
      exact ⟨rfl, Below.go HB.out hB⟩
end Go.Proofs.Ytljngnemiaklhaa
