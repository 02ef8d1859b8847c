/- stream: At, and the document's. -/
import Derived.Test.YtbepgbpmgiihbaaDoorJH
import Derived.Test.YtbepgbpmgiihbaaDoorCK
import Derived.Test.YtbepgbpmgiihbaaDoorCG
import Derived.Lib.Hide
import Derived.LoopN
import Derived.LoopTactic
import Derived.Deep.Onto
import Derived.Deep.WholeRow
import Derived.Deep.QuietTactic
import Derived.BigQuiet
import Derived.Laws.BitsLemmas
namespace Go.Proofs.YtbepgbpmgiihbaaDoor
set_option linter.unusedVariables false
set_option maxRecDepth 2000
set_option linter.unusedSimpArgs false
open Go.RowKit
/-- the number of a seed, a pixel, a sample, a bounce and a dim -/
def at10 (sd pi sa bo di : Int) : Int := atF sd (pi % 4294967296) (sa % 4294967296) bo di
theorem in_at10 (sd pi sa bo di : Int) : in32 (at10 sd pi sa bo di) := in_atF _ _ _ _ _
theorem m32 (x : Int) : in32 (x % 4294967296) := by unfold in32; omega
theorem At_any (sd pi sa bo di : Int) (hs : in64u sd) (hp : inI pi) (hq : inI sa) (hb : inI bo) (hd : inI di) (w : World) (hg : Has 0 0 GL w) :
    Calls Tryd.prog 6 #[.int .u64 sd, .int .i64 pi, .int .i64 sa, .int .i64 bo, .int .i64 di] w fun e w' => e = .returned (.int .u32 (at10 sd pi sa bo di)) ∧ Below w.heap.size w w' := by
  have HG := Lib.hid hg
  have FN := Lib.hid (New_any sd pi sa hs hp hq)
  have FX := Lib.hid (fun B => Next_any B sd (pi % 4294967296) (sa % 4294967296) bo di none hs (m32 _) (m32 _) hb hd)
  have E := Lib.hid (show atF sd (pi % 4294967296) (sa % 4294967296) bo di = at10 sd pi sa bo di from rfl)
  clear hg hs hp hq hb hd
  go_enter Tryd.func6, Tryd.ntmps6
  go_wp2_with (fail)
  go_at_call 9
  refine (FN.out _).mono ?_
  rintro e w1 ⟨rfl, hb, ho⟩
  have HO := Lib.hid ho
  clear ho
  obtain ⟨B, eB⟩ : ∃ B, B = w.heap.size := ⟨_, rfl⟩
  rw [← eB] at HO ⊢
  have EB := Lib.hid eB
  clear eB
  go_wp2_with (fail)
  go_at_call 10
  refine (FX.out B _ (HG.out.later hb) HO.out).mono ?_
  rintro e w2 ⟨rfl, hbut, _⟩
  rw [E.out]
  have hB2 : Below w.heap.size w w2 := hb.trans (EB.out ▸ hbut.below)
  go_wp2_with (fail)
  go_ret
  exact ⟨rfl, hB2⟩
theorem byteN_low (x : Int) (i : Nat) (hi : i < 4) : byteN (x % 18446744073709551616) i = byteN (x % 4294967296) i := by
  unfold byteN
  match i, hi with
  | 0, _ => show x % 18446744073709551616 / 1 % 256 = x % 4294967296 / 1 % 256; omega
  | 1, _ => show x % 18446744073709551616 / 256 % 256 = x % 4294967296 / 256 % 256; omega
  | 2, _ => show x % 18446744073709551616 / 65536 % 256 = x % 4294967296 / 65536 % 256; omega
  | 3, _ => show x % 18446744073709551616 / 16777216 % 256 = x % 4294967296 / 16777216 % 256; omega
  | n + 4, h => exact absurd h (by omega)
theorem nonF_low (x y : Int) : nums .u8 (nonF (x % 18446744073709551616) (y % 18446744073709551616)) 12 = nums .u8 (nonF (x % 4294967296) (y % 4294967296)) 12 := nums_congr _ fun j _ => by
  unfold nonF
  by_cases h : j < 4
  · rw [if_pos h, if_pos h, byteN_low _ _ h]
  · rw [if_neg h, if_neg h]
    by_cases h2 : j < 8
    · rw [if_pos h2, if_pos h2, byteN_low _ _ (by omega)]
    · rw [if_neg h2, if_neg h2]
theorem wrap_u64 (n : Int) : IntKind.u64.wrap n = n % 18446744073709551616 := by simp [IntKind.wrap, IntKind.bits, IntKind.signed]

set_option maxHeartbeats 4000000 in
theorem RAt_any (sd pi sa bo di : Int) (hs : in64u sd) (hp : inI pi) (hq : inI sa) (hb : inI bo) (hd : inI di) (w : World) :
    Calls Tryd.prog 7 #[.int .u64 sd, .int .i64 pi, .int .i64 sa, .int .i64 bo, .int .i64 di] w fun e w' => e = .returned (.int .u32 (at10 sd pi sa bo di)) ∧ Below w.heap.size w w' := by
  have FS := Lib.hid hs
  have NL := Lib.hid (nonF_low pi sa)
  have FP := Lib.hid (m32 pi); have FQ := Lib.hid (m32 sa); have FC := Lib.hid (in_cntF bo di); have FI := Lib.hid (idxN_le di)
  have EA := Lib.hid (show word (blkF (keyF sd) (cntF bo di) (nonF (pi % 4294967296) (sa % 4294967296))) (idxN di) = at10 sd pi sa bo di from rfl)
  have wp := wrap_u64 pi
  have wq := wrap_u64 sa
  obtain ⟨b0, eb0⟩ : ∃ k : Nat, bo % 18446744073709551616 = (k : Int) := ⟨(bo % 18446744073709551616).toNat, by omega⟩
  obtain ⟨d0, ed0⟩ : ∃ k : Nat, di % 18446744073709551616 = (k : Int) := ⟨(di % 18446744073709551616).toNat, by omega⟩
  have wb := wrap_u64 bo
  have wd := wrap_u64 di
  rw [eb0] at wb
  rw [ed0] at wd
  obtain ⟨b1, eb1⟩ : ∃ k : Nat, b0 % 65536 = k := ⟨_, rfl⟩
  obtain ⟨d1, ed1⟩ : ∃ k : Nat, d0 % 64 = k := ⟨_, rfl⟩
  obtain ⟨d2, ed2⟩ : ∃ k : Nat, d1 / 16 = k := ⟨_, rfl⟩
  obtain ⟨d3, ed3⟩ : ∃ k : Nat, d1 % 16 = k := ⟨_, rfl⟩
  have tb : (b0 : Int).tmod 65536 = (b1 : Int) := by rw [Int.tmod_eq_emod_of_nonneg (by omega)]; omega
  have td : (d0 : Int).tmod 64 = (d1 : Int) := by rw [Int.tmod_eq_emod_of_nonneg (by omega)]; omega
  have te : (d1 : Int).tdiv 16 = (d2 : Int) := by rw [Int.tdiv_eq_ediv_of_nonneg (by omega)]; omega
  have tf : (d1 : Int).tmod 16 = (d3 : Int) := by rw [Int.tmod_eq_emod_of_nonneg (by omega)]; omega
  have HC := Lib.hid (show cntF bo di = (b1 : Int) * 4 + (d2 : Int) by unfold cntF; omega)
  have HX := Lib.hid (show idxN di = 4 * d3 by unfold idxN; omega)
  have B1 : b1 < 65536 := by omega
  have D1 : d1 < 64 := by omega
  have D2 : d2 < 4 := by omega
  have D3 : d3 < 16 := by omega
  obtain ⟨P, eP⟩ : ∃ P, pi % 18446744073709551616 = P := ⟨_, rfl⟩
  obtain ⟨Q, eQ⟩ : ∃ Q, sa % 18446744073709551616 = Q := ⟨_, rfl⟩
  rw [eP] at wp NL
  rw [eQ] at wq NL
  have P0 : 0 ≤ P ∧ P < 18446744073709551616 := by omega
  have Q0 : 0 ≤ Q ∧ Q < 18446744073709551616 := by omega
  generalize cntF bo di = C at *
  generalize idxN di = X at *
  generalize pi % 4294967296 = p at *
  generalize sa % 4294967296 = q at *
  clear hs hp hq hb hd eb0 ed0 eb1 ed1 ed2 ed3 eP eQ
  go_enter Tryd.func7, Tryd.ntmps7
  go_upto_region 4 with fail
  obtain ⟨W0, hW⟩ : ∃ W0, W0 = (w.alloc (.cells #[.int .u8 0, .int .u8 0, .int .u8 0, .int .u8 0, .int .u8 0, .int .u8 0, .int .u8 0, .int .u8 0, .int .u8 0, .int .u8 0, .int .u8 0, .int .u8 0] 47)) := ⟨_, rfl⟩
  have hB0 : Below w.heap.size w W0 := hW ▸ (Below.al (Below.refl _ _))
  have HM : Hid (Own w.heap.size (nums .u8 (fun _ => 0) 12) W0) := Lib.hid (hW ▸ (show Own w.heap.size (nums .u8 (fun _ => 0) 12) (w.alloc (.cells #[.int .u8 0, .int .u8 0, .int .u8 0, .int .u8 0, .int .u8 0, .int .u8 0, .int .u8 0, .int .u8 0, .int .u8 0, .int .u8 0, .int .u8 0, .int .u8 0] 47)) from Own.newAt (by simp)))
  rw [← hW]
  clear hW
  obtain ⟨M, eM⟩ : ∃ X, X = w.heap.size := ⟨_, rfl⟩
  rw [← eM] at HM ⊢
  have Mw : w.heap.size ≤ M := by omega
  clear eM
  rw [nonU_0 P Q] at HM
  go_wp2_with (fail)
  go_loopw [16] (fun iv wr => ∃ (k : Nat), k ≤ 4 ∧ iv = .int .i64 k ∧ Hid (Below w.heap.size w wr) ∧ Hid (Own M (nums .u8 (nonU P Q k) 12) wr)) (fun iv _ => (4 - (intOf iv).toNat))
  case atStart => exact ⟨0, Nat.zero_le _, rfl, Lib.hid hB0, HM⟩
  case round =>
    clear HM hB0
    obtain ⟨k, hk, rfl, HW, HM⟩ := hrel
    by_cases hlt : k < 4
    · obtain ⟨m, em⟩ : ∃ m, 8 * k = m := ⟨_, rfl⟩
      obtain ⟨a, ea⟩ : ∃ a, 4 + k = a := ⟨_, rfl⟩
      obtain ⟨y, ey⟩ : ∃ y, byteN P k = y := ⟨_, rfl⟩
      obtain ⟨z, ez⟩ : ∃ z, byteN Q k = z := ⟨_, rfl⟩
      have ME := Lib.hid (nonU_step P Q k y z hlt ey ez)
      rw [ea] at ME
      have y3 : P / 2 ^ min m 64 % 256 = y := by rw [Nat.min_eq_left (by omega), ← ey, ← em]; rfl
      have z3 : Q / 2 ^ min m 64 % 256 = z := by rw [Nat.min_eq_left (by omega), ← ez, ← em]; rfl
      have xf := HM.out.ok k (by rw [nums_length]; omega)
      have x0 := HM.out.at k _ (nums_at .u8 _ (show k < 12 by omega))
      have xg := HM.out.ok a (by rw [nums_length]; omega)
      have x1 := HM.out.at a _ (nums_at .u8 _ (show a < 12 by omega))
      have Ml := HM.out.lt
      have nka : k ≠ a := by omega
      have nak : a ≠ k := by omega
      have O1 := own_set (v := y) HM.out (show k < 12 by omega)
      have O2 := own_set (v := z) O1 (show a < 12 by omega)
      rw [ME.out] at O2
      have o1 := Lib.hid O2
      have o4 := Lib.hid (Below.setCells (Below.setCells HW.out Mw [.int .u8 y] k) Mw [.int .u8 z] a)
      have k1 : (k : Int) < 4 := by omega
      have k2 : (k : Int) < 12 := by omega
      have k0 : (0 : Int) ≤ (k : Int) := by omega
      have wk : IntKind.i64.wrap ((k : Int) + 1) = (k : Int) + 1 := IntWalk.i64_in _ (by omega)
      have wm : IntKind.i64.wrap (8 * (k : Int)) = (m : Int) := by rw [IntWalk.i64_in _ (by omega)]; omega
      have wa : IntKind.i64.wrap (4 + (k : Int)) = (a : Int) := by rw [IntWalk.i64_in _ (by omega)]; omega
      have a0 : (0 : Int) ≤ (a : Int) := by omega
      have a1 : (a : Int) < 12 := by omega
      have m0 : (0 : Int) ≤ (m : Int) := by omega
      have HE := Lib.hid (show k + 1 ≤ 4 by omega)
      clear ey ez ME HM HW em ea hlt O1 O2 hk
      go_wp2_with (fail)
      go_roundw
      case rel => (first | exact ⟨k + 1, HE.out, by go_num, o4, o1⟩ | ((repeat apply Exists.intro); exact ⟨⟨k + 1, HE.out, by go_num, o4, o1⟩, rfl⟩))
      case measure => simp [intOf]; omega
    · have e4 : k = 4 := by omega
      subst e4
      rw [nonU_4, NL.out] at HM
      go_upto_region 9 with fail
      obtain ⟨W1, e0⟩ : ∃ x, x = wr := ⟨_, rfl⟩
      rw [← e0] at HM HW ⊢
      clear e0 hk hlt
      have hC : ((b1 : Int) * 4 + (d2 : Int)) % 4294967296 = C := by have := HC.out; omega
      have hC2 : IntKind.u32.wrap ((b1 : Int) * 4 + (d2 : Int)) = C := by rw [IntKind.wrap_u32']; exact hC
      have g1 : (b1 : Int) * 4 % 18446744073709551616 = (b1 : Int) * 4 := by omega
      have g2 : ((b1 : Int) * 4 + (d2 : Int)) % 18446744073709551616 = (b1 : Int) * 4 + (d2 : Int) := by omega
      have g3 : (d2 : Int) % 18446744073709551616 = (d2 : Int) := by omega
      have g4 : IntKind.u64.wrap ((b1 : Int) * 4) = (b1 : Int) * 4 := by rw [wrap_u64]; exact g1
      have g5 : IntKind.u64.wrap ((b1 : Int) * 4 + (d2 : Int)) = (b1 : Int) * 4 + (d2 : Int) := by rw [wrap_u64]; exact g2
      have g6 : IntKind.u64.wrap (d2 : Int) = (d2 : Int) := by rw [wrap_u64]; exact g3
      refine wp_region_fun 12 (by kernel_rfl) (by kernel_rfl) rfl (fun s b => ⟨#[.int .u64 sd, .int .i64 pi, .int .i64 sa, .int .i64 bo, .int .i64 di, undef, undef, undef, undef, undef, .int .u32 0, .int .u64 P, .int .u64 Q, .int .u64 (b1 : Int), .int .u64 (d1 : Int), .pointer (some ⟨M, 0, none⟩), .int .i64 ((4 : Nat) : Int), s 17, undef, .int .i64 pi, .int .u64 P, .int .i64 sa, .int .u64 Q, .int .i64 bo, .int .u64 (b0 : Int), .int .u64 (b1 : Int), .int .i64 di, .int .u64 (d0 : Int), .int .u64 (d1 : Int), .int .i64 ((4 : Nat) : Int), .bool false, u31, u32, u33, u34, u35, u36, u37, u38, u39, u40, u41, u42, u43, u44, u45, u46, u47, s 48, s 49, s 50, s 51, s 52, s 53, s 54, s 55, s 56, s 57, undef, undef, undef, undef, undef, undef, undef, undef, undef], []⟩) (fun d s b w => (Below W1.heap.size W1 w) ∧ (d 0 = true → s 48 = .int .u64 sd) ∧ (d 1 = true → s 49 = (.agg (nums .u8 (keyF sd) 32).toArray)) ∧ (d 2 = true → s 50 = .int .u64 (b1 : Int)) ∧ (d 3 = true → s 51 = .int .u64 ((b1 : Int) * 4)) ∧ (d 4 = true → s 52 = .int .u64 (d1 : Int)) ∧ (d 5 = true → s 53 = .int .u64 (d2 : Int)) ∧ (d 6 = true → s 54 = .int .u64 ((b1 : Int) * 4 + (d2 : Int))) ∧ (d 7 = true → s 55 = .int .u32 C) ∧ (d 8 = true → s 56 = (.agg (nums .u8 (nonF p q) 12).toArray)) ∧ (d 9 = true → s 57 = (.agg (nums .u8 (blkF (keyF sd) C (nonF p q)) 64).toArray)) ∧ (d 10 = true → s 17 = .pointer (some ⟨(b 10), 0, none⟩) ∧ W1.heap.size ≤ b 10) ∧ (d 10 = true → d 11 = false → Own (b 10) (nums .u8 (fun _ => 0) 64) w) ∧ (d 11 = true → Own (b 10) (nums .u8 (blkF (keyF sd) C (nonF p q)) 64) w) ∧ (d 11 = true → d 10 = true)) rfl ?h0y1 (?sty1 : StepsF _ _ _ _ 12 _ _ [0, 1, 2, 3, 4, 5, 6, 7, 8, 9, 10, 11]) ?dny1
      case h0y1 => exact ⟨Below.drew (Below.refl _ _), (fun h => nomatch h), (fun h => nomatch h), (fun h => nomatch h), (fun h => nomatch h), (fun h => nomatch h), (fun h => nomatch h), (fun h => nomatch h), (fun h => nomatch h), (fun h => nomatch h), (fun h => nomatch h), (fun h => nomatch h), (fun h => nomatch h), (fun h => nomatch h), (fun h => nomatch h)⟩
      case sty1 =>
        refine StepsF.cons (o := _) rfl (ws := []) (by kernel_rfl) (by decide) (fun d s b w hF hd hw K_ hK => ?_) ?_
        · have hB : Below W1.heap.size W1 w := (p0_ hF.out)
          dsimp only
          go_simp
          exact hK.out (ups s 48 (.int .u64 sd)) b _ ⟨hB, (fun _ => rfl), (p2_ hF.out), (p3_ hF.out), (p4_ hF.out), (p5_ hF.out), (p6_ hF.out), (p7_ hF.out), (p8_ hF.out), (p9_ hF.out), (p10_ hF.out), (p11_ hF.out), (p12_ hF.out), (p13_ hF.out), (q14_ hF.out)⟩
        refine StepsF.cons (o := _) rfl (ws := [0]) (by kernel_rfl) (by decide) (fun d s b w hF hd hw K_ hK => ?_) ?_
        · have hB : Below W1.heap.size W1 w := (p0_ hF.out)
          have e0 : s 48 = .int .u64 sd := (p1_ hF.out) (hw 0 (by decide))
          dsimp only
          go_simp
          go_at_call 14
          refine (RKey_any sd FS.out _).mono ?_
          rintro e w1 ⟨rfl, hb⟩
          exact hK.out (ups (ups s 48 (.int .u64 sd)) 49 ((.agg (nums .u8 (keyF sd) 32).toArray))) b _ ⟨(Below.go hB hb), (fun _ => rfl), (fun _ => rfl), (p3_ hF.out), (p4_ hF.out), (p5_ hF.out), (p6_ hF.out), (p7_ hF.out), (p8_ hF.out), (p9_ hF.out), (p10_ hF.out), (p11_ hF.out), (fun h0 h1 => ((p12_ hF.out) h0 h1).later hb), (fun h0 => ((p13_ hF.out) h0).later hb), (q14_ hF.out)⟩
        refine StepsF.cons (o := _) rfl (ws := []) (by kernel_rfl) (by decide) (fun d s b w hF hd hw K_ hK => ?_) ?_
        · have hB : Below W1.heap.size W1 w := (p0_ hF.out)
          dsimp only
          go_simp
          exact hK.out (ups s 50 (.int .u64 (b1 : Int))) b _ ⟨hB, (p1_ hF.out), (p2_ hF.out), (fun _ => rfl), (p4_ hF.out), (p5_ hF.out), (p6_ hF.out), (p7_ hF.out), (p8_ hF.out), (p9_ hF.out), (p10_ hF.out), (p11_ hF.out), (p12_ hF.out), (p13_ hF.out), (q14_ hF.out)⟩
        refine StepsF.cons (o := _) rfl (ws := [2]) (by kernel_rfl) (by decide) (fun d s b w hF hd hw K_ hK => ?_) ?_
        · have hB : Below W1.heap.size W1 w := (p0_ hF.out)
          have e2 : s 50 = .int .u64 (b1 : Int) := (p3_ hF.out) (hw 2 (by decide))
          dsimp only
          go_simp
          exact hK.out (ups (ups s 50 (.int .u64 (b1 : Int))) 51 (.int .u64 ((b1 : Int) * 4))) b _ ⟨hB, (p1_ hF.out), (p2_ hF.out), (fun _ => rfl), (fun _ => rfl), (p5_ hF.out), (p6_ hF.out), (p7_ hF.out), (p8_ hF.out), (p9_ hF.out), (p10_ hF.out), (p11_ hF.out), (p12_ hF.out), (p13_ hF.out), (q14_ hF.out)⟩
        refine StepsF.cons (o := _) rfl (ws := []) (by kernel_rfl) (by decide) (fun d s b w hF hd hw K_ hK => ?_) ?_
        · have hB : Below W1.heap.size W1 w := (p0_ hF.out)
          dsimp only
          go_simp
          exact hK.out (ups s 52 (.int .u64 (d1 : Int))) b _ ⟨hB, (p1_ hF.out), (p2_ hF.out), (p3_ hF.out), (p4_ hF.out), (fun _ => rfl), (p6_ hF.out), (p7_ hF.out), (p8_ hF.out), (p9_ hF.out), (p10_ hF.out), (p11_ hF.out), (p12_ hF.out), (p13_ hF.out), (q14_ hF.out)⟩
        refine StepsF.cons (o := _) rfl (ws := [4]) (by kernel_rfl) (by decide) (fun d s b w hF hd hw K_ hK => ?_) ?_
        · have hB : Below W1.heap.size W1 w := (p0_ hF.out)
          have e4 : s 52 = .int .u64 (d1 : Int) := (p5_ hF.out) (hw 4 (by decide))
          dsimp only
          go_simp
          exact hK.out (ups (ups s 52 (.int .u64 (d1 : Int))) 53 (.int .u64 (d2 : Int))) b _ ⟨hB, (p1_ hF.out), (p2_ hF.out), (p3_ hF.out), (p4_ hF.out), (fun _ => rfl), (fun _ => rfl), (p7_ hF.out), (p8_ hF.out), (p9_ hF.out), (p10_ hF.out), (p11_ hF.out), (p12_ hF.out), (p13_ hF.out), (q14_ hF.out)⟩
        refine StepsF.cons (o := _) rfl (ws := [3, 5]) (by kernel_rfl) (by decide) (fun d s b w hF hd hw K_ hK => ?_) ?_
        · have hB : Below W1.heap.size W1 w := (p0_ hF.out)
          have e3 : s 51 = .int .u64 ((b1 : Int) * 4) := (p4_ hF.out) (hw 3 (by decide))
          have e5 : s 53 = .int .u64 (d2 : Int) := (p6_ hF.out) (hw 5 (by decide))
          dsimp only
          go_simp
          exact hK.out (ups (ups (ups s 51 (.int .u64 ((b1 : Int) * 4))) 53 (.int .u64 (d2 : Int))) 54 (.int .u64 ((b1 : Int) * 4 + (d2 : Int)))) b _ ⟨hB, (p1_ hF.out), (p2_ hF.out), (p3_ hF.out), (fun _ => rfl), (p5_ hF.out), (fun _ => rfl), (fun _ => rfl), (p8_ hF.out), (p9_ hF.out), (p10_ hF.out), (p11_ hF.out), (p12_ hF.out), (p13_ hF.out), (q14_ hF.out)⟩
        refine StepsF.cons (o := _) rfl (ws := [6]) (by kernel_rfl) (by decide) (fun d s b w hF hd hw K_ hK => ?_) ?_
        · have hB : Below W1.heap.size W1 w := (p0_ hF.out)
          have e6 : s 54 = .int .u64 ((b1 : Int) * 4 + (d2 : Int)) := (p7_ hF.out) (hw 6 (by decide))
          dsimp only
          go_simp
          exact hK.out (ups (ups s 54 (.int .u64 ((b1 : Int) * 4 + (d2 : Int)))) 55 (.int .u32 C)) b _ ⟨hB, (p1_ hF.out), (p2_ hF.out), (p3_ hF.out), (p4_ hF.out), (p5_ hF.out), (p6_ hF.out), (fun _ => rfl), (fun _ => rfl), (p9_ hF.out), (p10_ hF.out), (p11_ hF.out), (p12_ hF.out), (p13_ hF.out), (q14_ hF.out)⟩
        refine StepsF.cons (o := _) rfl (ws := []) (by kernel_rfl) (by decide) (fun d s b w hF hd hw K_ hK => ?_) ?_
        · have hB : Below W1.heap.size W1 w := (p0_ hF.out)
          refine step_load (by simp [Region.wanted]) 47 _ rfl M 0 rfl (nums .u8 (nonF p q) 12) _ (HM.out.later hB).cell Tryd.underlying47 rfl (by kernel_rfl) ?_
          exact hK.out (ups s 56 ((.agg (nums .u8 (nonF p q) 12).toArray))) b _ ⟨hB, (p1_ hF.out), (p2_ hF.out), (p3_ hF.out), (p4_ hF.out), (p5_ hF.out), (p6_ hF.out), (p7_ hF.out), (p8_ hF.out), (fun _ => rfl), (p10_ hF.out), (p11_ hF.out), (p12_ hF.out), (p13_ hF.out), (q14_ hF.out)⟩
        refine StepsF.cons (o := _) rfl (ws := [1, 7, 8, 1]) (by kernel_rfl) (by decide) (fun d s b w hF hd hw K_ hK => ?_) ?_
        · have hB : Below W1.heap.size W1 w := (p0_ hF.out)
          have e1 : s 49 = (.agg (nums .u8 (keyF sd) 32).toArray) := (p2_ hF.out) (hw 1 (by decide))
          have e7 : s 55 = .int .u32 C := (p8_ hF.out) (hw 7 (by decide))
          have e8 : s 56 = (.agg (nums .u8 (nonF p q) 12).toArray) := (p9_ hF.out) (hw 8 (by decide))
          dsimp only
          go_simp
          go_at_call 13
          refine (RBlock_any (keyF sd) (nonF p q) C (fun i _ => in_keyF sd i) (fun i _ => in_nonF p q i) FC.out _).mono ?_
          rintro e w1 ⟨rfl, hb⟩
          exact hK.out (ups (ups (ups (ups s 49 ((.agg (nums .u8 (keyF sd) 32).toArray))) 55 (.int .u32 C)) 56 ((.agg (nums .u8 (nonF p q) 12).toArray))) 57 ((.agg (nums .u8 (blkF (keyF sd) C (nonF p q)) 64).toArray))) b _ ⟨(Below.go hB hb), (p1_ hF.out), (fun _ => rfl), (p3_ hF.out), (p4_ hF.out), (p5_ hF.out), (p6_ hF.out), (p7_ hF.out), (fun _ => rfl), (fun _ => rfl), (fun _ => rfl), (p11_ hF.out), (fun h0 h1 => ((p12_ hF.out) h0 h1).later hb), (fun h0 => ((p13_ hF.out) h0).later hb), (q14_ hF.out)⟩
        refine StepsF.cons (o := _) rfl (ws := []) (by kernel_rfl) (by decide) (fun d s b w hF hd hw K_ hK => ?_) ?_
        · have hB : Below W1.heap.size W1 w := (p0_ hF.out)
          dsimp only
          go_simp
          exact hK.out (ups s 17 (.pointer (some ⟨w.heap.size, 0, none⟩))) (ups b 10 w.heap.size) _ ⟨(hB.alloc hB.size _), (p1_ hF.out), (p2_ hF.out), (p3_ hF.out), (p4_ hF.out), (p5_ hF.out), (p6_ hF.out), (p7_ hF.out), (p8_ hF.out), (p9_ hF.out), (p10_ hF.out), (fun _ => ⟨rfl, hB.size⟩), (fun _ _ => Own.newAt rfl), (fun h => absurd ((q14_ hF.out) h) (by simp [hd])), (fun _ => rfl)⟩
        refine StepsF.cons (o := _) rfl (ws := [10, 9, 9, 0, 1, 2, 3, 4, 5, 6, 7, 8, 9, 10]) (by kernel_rfl) (by decide) (fun d s b w hF hd hw K_ hK => ?_) ?_
        · have hB : Below W1.heap.size W1 w := (p0_ hF.out)
          have e0 : s 48 = .int .u64 sd := (p1_ hF.out) (hw 0 (by decide))
          have e1 : s 49 = (.agg (nums .u8 (keyF sd) 32).toArray) := (p2_ hF.out) (hw 1 (by decide))
          have e2 : s 50 = .int .u64 (b1 : Int) := (p3_ hF.out) (hw 2 (by decide))
          have e3 : s 51 = .int .u64 ((b1 : Int) * 4) := (p4_ hF.out) (hw 3 (by decide))
          have e4 : s 52 = .int .u64 (d1 : Int) := (p5_ hF.out) (hw 4 (by decide))
          have e5 : s 53 = .int .u64 (d2 : Int) := (p6_ hF.out) (hw 5 (by decide))
          have e6 : s 54 = .int .u64 ((b1 : Int) * 4 + (d2 : Int)) := (p7_ hF.out) (hw 6 (by decide))
          have e7 : s 55 = .int .u32 C := (p8_ hF.out) (hw 7 (by decide))
          have e8 : s 56 = (.agg (nums .u8 (nonF p q) 12).toArray) := (p9_ hF.out) (hw 8 (by decide))
          have e9 : s 57 = (.agg (nums .u8 (blkF (keyF sd) C (nonF p q)) 64).toArray) := (p10_ hF.out) (hw 9 (by decide))
          have e10 : s 17 = .pointer (some ⟨(b 10), 0, none⟩) := ((p11_ hF.out) (hw 10 (by decide))).1
          have le10 : W1.heap.size ≤ b 10 := ((p11_ hF.out) (hw 10 (by decide))).2
          dsimp only
          have o10 := (p12_ hF.out) (hw 10 (by decide)) hd
          have hst := store_nums (P := Tryd.prog) (n := 64) .u8 (blkF (keyF sd) C (nonF p q)) o10 (by rw [nums_length])
          go_simp
          exact hK.out (ups (ups (ups (ups (ups (ups (ups (ups (ups (ups (ups s 48 (.int .u64 sd)) 49 ((.agg (nums .u8 (keyF sd) 32).toArray))) 50 (.int .u64 (b1 : Int))) 51 (.int .u64 ((b1 : Int) * 4))) 52 (.int .u64 (d1 : Int))) 53 (.int .u64 (d2 : Int))) 54 (.int .u64 ((b1 : Int) * 4 + (d2 : Int)))) 55 (.int .u32 C)) 56 ((.agg (nums .u8 (nonF p q) 12).toArray))) 57 ((.agg (nums .u8 (blkF (keyF sd) C (nonF p q)) 64).toArray))) 17 (.pointer (some ⟨(b 10), 0, none⟩))) b _ ⟨(Below.setCells hB le10 (nums .u8 (blkF (keyF sd) C (nonF p q)) 64) 0), (fun _ => rfl), (fun _ => rfl), (fun _ => rfl), (fun _ => rfl), (fun _ => rfl), (fun _ => rfl), (fun _ => rfl), (fun _ => rfl), (fun _ => rfl), (fun _ => rfl), (fun _ => ⟨rfl, le10⟩), (fun _ h => nomatch h), (fun _ => Own.store (vs := (nums .u8 (blkF (keyF sd) C (nonF p q)) 64)) o10 (by rw [nums_length, nums_length])), (fun _ => hw 10 (by decide))⟩
        exact StepsF.nil
      intro d s b y1 hF hall
      replace hF := Lib.hid hF
      have hB : Below W1.heap.size W1 y1 := (p0_ hF.out)
      try dsimp only
      have e0 : s 48 = .int .u64 sd := (p1_ hF.out) (hall 0 (by decide))
      have e1 : s 49 = (.agg (nums .u8 (keyF sd) 32).toArray) := (p2_ hF.out) (hall 1 (by decide))
      have e2 : s 50 = .int .u64 (b1 : Int) := (p3_ hF.out) (hall 2 (by decide))
      have e3 : s 51 = .int .u64 ((b1 : Int) * 4) := (p4_ hF.out) (hall 3 (by decide))
      have e4 : s 52 = .int .u64 (d1 : Int) := (p5_ hF.out) (hall 4 (by decide))
      have e5 : s 53 = .int .u64 (d2 : Int) := (p6_ hF.out) (hall 5 (by decide))
      have e6 : s 54 = .int .u64 ((b1 : Int) * 4 + (d2 : Int)) := (p7_ hF.out) (hall 6 (by decide))
      have e7 : s 55 = .int .u32 C := (p8_ hF.out) (hall 7 (by decide))
      have e8 : s 56 = (.agg (nums .u8 (nonF p q) 12).toArray) := (p9_ hF.out) (hall 8 (by decide))
      have e9 : s 57 = (.agg (nums .u8 (blkF (keyF sd) C (nonF p q)) 64).toArray) := (p10_ hF.out) (hall 9 (by decide))
      have e10 : s 17 = .pointer (some ⟨(b 10), 0, none⟩) := ((p11_ hF.out) (hall 10 (by decide))).1
      have le10 : W1.heap.size ≤ b 10 := ((p11_ hF.out) (hall 10 (by decide))).2
      have f11 := (p13_ hF.out) (hall 11 (by decide))
      rw [e0, e1, e2, e3, e4, e5, e6, e7, e8, e9, e10]
      clear hall hF e0 e1 e2 e3 e4 e5 e6 e7 e8 e9 e10
      obtain ⟨T, hz⟩ : ∃ x, x = b 10 := ⟨_, rfl⟩
      rw [← hz] at le10 f11 ⊢
      clear hz
      clear d s b
      have HT := Lib.hid f11
      have hB2 := Below.go HW.out hB
      have X6 := FI.out
      obtain ⟨Y, eY⟩ : ∃ Y, Y = X + 4 := ⟨_, rfl⟩
      have gx : 4 * (d3 : Int) = (X : Int) := by have := HX.out; omega
      have gy : (X : Int) + 4 = (Y : Int) := by omega
      have gz : IntKind.i64.wrap (Y : Int) = (Y : Int) := IntWalk.i64_in _ (by omega)
      have gw : IntKind.i64.wrap (X : Int) = (X : Int) := IntWalk.i64_in _ (by omega)
      have gv : IntKind.u64.wrap (X : Int) = (X : Int) := by rw [wrap_u64]; omega
      have gu : (X : Int) % 18446744073709551616 = (X : Int) := by omega
      have x0 : (0 : Int) ≤ (X : Int) := by omega
      have x1 : (X : Int) ≤ (Y : Int) := by omega
      have x2 : (Y : Int) ≤ 64 := by omega
      have x3 : X ≤ Y := by omega
      have x4 : Y ≤ 64 := by omega
      have ey := Lib.hid eY
      clear f11 hB HW HM hC hC2 g1 g2 g3 g4 g5 g6 le10 eY NL FP FQ X6
      go_wp2_with (fail)
      go_at_call 15
      refine (RNumber_any T X (Y - X) (64 - X) _ _ _ _ (in_blkF _ _ _ _) (in_blkF _ _ _ _) (in_blkF _ _ _ _) (in_blkF _ _ _ _) (by have := ey.out; omega) _ (by have := has_four (o := 0) HT.out.has (show X + 4 ≤ 64 by have := ey.out; omega); rwa [Nat.zero_add] at this)).mono ?_
      rintro e w5 ⟨rfl, hb5⟩
      have hB5 := Below.go hB2 hb5
      clear HT hb5 hB2
      rw [show (blkF (keyF sd) C (nonF p q) X + 256 * blkF (keyF sd) C (nonF p q) (X + 1) + 65536 * blkF (keyF sd) C (nonF p q) (X + 2) + 16777216 * blkF (keyF sd) C (nonF p q) (X + 3)) = word (blkF (keyF sd) C (nonF p q)) X from rfl, EA.out]
      go_wp2_with (fail)
      go_ret
      exact ⟨rfl, hB5⟩
end Go.Proofs.YtbepgbpmgiihbaaDoor
