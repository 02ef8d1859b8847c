/- stream: a spot's block. -/
import Derived.Test.YtbepgbpmgiihbaaDoorJE
import Derived.Test.YtbepgbpmgiihbaaDoorCJ
import Derived.Test.YtbepgbpmgiihbaaDoorHU
import Derived.Lib.Hide
import Derived.LoopN
import Derived.LoopTactic
import Derived.Deep.Onto
import Derived.Deep.WholeRow
namespace Go.Proofs.YtbepgbpmgiihbaaDoor
set_option linter.unusedVariables false
set_option maxRecDepth 2000
set_option linter.unusedSimpArgs false
open Go.RowKit
/-- a spot's cells -/
def spotL (sd p q c : Int) : List Value := [.int .u64 sd, .int .u32 p, .int .u32 q, .int .u32 c]
def in64u (s : Int) : Prop := 0 ≤ s ∧ s < 18446744073709551616

set_option maxHeartbeats 4000000 in
theorem spot_any (sd p q c : Int) (hs : in64u sd) (hp : in32 p) (hq : in32 q) (hc : in32 c) (w : World) (hg : Has 0 0 GL w) :
    Calls Tryd.prog 19 #[.agg #[.int .u64 sd, .int .u32 p, .int .u32 q, .int .u32 c]] w fun e w' => e = .returned (.agg (nums .u8 (blkF (keyF sd) c (nonF p q)) 64).toArray) ∧ Below w.heap.size w w' := by
  have FS := Lib.hid hs; have FC := Lib.hid hc; have HG0 := Lib.hid hg
  unfold in32 at hp hq
  clear hs hc hg
  go_enter Tryd.func19, Tryd.ntmps19
  go_upto_region 2 with fail
  obtain ⟨W0, hW⟩ : ∃ W0, W0 = (((w.alloc (.cells #[.int .u64 sd, .int .u32 p, .int .u32 q, .int .u32 c] 34)).alloc (.cells #[.int .u8 0, .int .u8 0, .int .u8 0, .int .u8 0, .int .u8 0, .int .u8 0, .int .u8 0, .int .u8 0, .int .u8 0, .int .u8 0, .int .u8 0, .int .u8 0, .int .u8 0, .int .u8 0, .int .u8 0, .int .u8 0, .int .u8 0, .int .u8 0, .int .u8 0, .int .u8 0, .int .u8 0, .int .u8 0, .int .u8 0, .int .u8 0, .int .u8 0, .int .u8 0, .int .u8 0, .int .u8 0, .int .u8 0, .int .u8 0, .int .u8 0, .int .u8 0, .int .u8 0, .int .u8 0, .int .u8 0, .int .u8 0, .int .u8 0, .int .u8 0, .int .u8 0, .int .u8 0, .int .u8 0, .int .u8 0, .int .u8 0, .int .u8 0, .int .u8 0, .int .u8 0, .int .u8 0, .int .u8 0, .int .u8 0, .int .u8 0, .int .u8 0, .int .u8 0, .int .u8 0, .int .u8 0, .int .u8 0, .int .u8 0, .int .u8 0, .int .u8 0, .int .u8 0, .int .u8 0, .int .u8 0, .int .u8 0, .int .u8 0, .int .u8 0] 35)).alloc (.cells #[.int .u8 0, .int .u8 0, .int .u8 0, .int .u8 0, .int .u8 0, .int .u8 0, .int .u8 0, .int .u8 0, .int .u8 0, .int .u8 0, .int .u8 0, .int .u8 0] 47)) := ⟨_, rfl⟩
  have hB0 : Below w.heap.size w W0 := hW ▸ (Below.al (Below.al (Below.al (Below.refl _ _))))
  have HS : Hid (Own w.heap.size ([.int .u64 sd, .int .u32 p, .int .u32 q, .int .u32 c]) W0) := Lib.hid (hW ▸ (show Own w.heap.size ([.int .u64 sd, .int .u32 p, .int .u32 q, .int .u32 c]) (w.alloc (.cells #[.int .u64 sd, .int .u32 p, .int .u32 q, .int .u32 c] 34)) from Own.newAt (by simp)).alloc.alloc)
  have HR : Hid (Own (w.heap.size + 1) (nums .u8 (fun _ => 0) 64) W0) := Lib.hid (hW ▸ (show Own (w.heap.size + 1) (nums .u8 (fun _ => 0) 64) ((w.alloc (.cells #[.int .u64 sd, .int .u32 p, .int .u32 q, .int .u32 c] 34)).alloc (.cells #[.int .u8 0, .int .u8 0, .int .u8 0, .int .u8 0, .int .u8 0, .int .u8 0, .int .u8 0, .int .u8 0, .int .u8 0, .int .u8 0, .int .u8 0, .int .u8 0, .int .u8 0, .int .u8 0, .int .u8 0, .int .u8 0, .int .u8 0, .int .u8 0, .int .u8 0, .int .u8 0, .int .u8 0, .int .u8 0, .int .u8 0, .int .u8 0, .int .u8 0, .int .u8 0, .int .u8 0, .int .u8 0, .int .u8 0, .int .u8 0, .int .u8 0, .int .u8 0, .int .u8 0, .int .u8 0, .int .u8 0, .int .u8 0, .int .u8 0, .int .u8 0, .int .u8 0, .int .u8 0, .int .u8 0, .int .u8 0, .int .u8 0, .int .u8 0, .int .u8 0, .int .u8 0, .int .u8 0, .int .u8 0, .int .u8 0, .int .u8 0, .int .u8 0, .int .u8 0, .int .u8 0, .int .u8 0, .int .u8 0, .int .u8 0, .int .u8 0, .int .u8 0, .int .u8 0, .int .u8 0, .int .u8 0, .int .u8 0, .int .u8 0, .int .u8 0] 35)) from Own.newAt (by simp)).alloc)
  have HM : Hid (Own ((w.heap.size + 1) + 1) (nums .u8 (fun _ => 0) 12) W0) := Lib.hid (hW ▸ (show Own ((w.heap.size + 1) + 1) (nums .u8 (fun _ => 0) 12) (((w.alloc (.cells #[.int .u64 sd, .int .u32 p, .int .u32 q, .int .u32 c] 34)).alloc (.cells #[.int .u8 0, .int .u8 0, .int .u8 0, .int .u8 0, .int .u8 0, .int .u8 0, .int .u8 0, .int .u8 0, .int .u8 0, .int .u8 0, .int .u8 0, .int .u8 0, .int .u8 0, .int .u8 0, .int .u8 0, .int .u8 0, .int .u8 0, .int .u8 0, .int .u8 0, .int .u8 0, .int .u8 0, .int .u8 0, .int .u8 0, .int .u8 0, .int .u8 0, .int .u8 0, .int .u8 0, .int .u8 0, .int .u8 0, .int .u8 0, .int .u8 0, .int .u8 0, .int .u8 0, .int .u8 0, .int .u8 0, .int .u8 0, .int .u8 0, .int .u8 0, .int .u8 0, .int .u8 0, .int .u8 0, .int .u8 0, .int .u8 0, .int .u8 0, .int .u8 0, .int .u8 0, .int .u8 0, .int .u8 0, .int .u8 0, .int .u8 0, .int .u8 0, .int .u8 0, .int .u8 0, .int .u8 0, .int .u8 0, .int .u8 0, .int .u8 0, .int .u8 0, .int .u8 0, .int .u8 0, .int .u8 0, .int .u8 0, .int .u8 0, .int .u8 0] 35)).alloc (.cells #[.int .u8 0, .int .u8 0, .int .u8 0, .int .u8 0, .int .u8 0, .int .u8 0, .int .u8 0, .int .u8 0, .int .u8 0, .int .u8 0, .int .u8 0, .int .u8 0] 47)) from Own.newAt (by simp)))
  rw [← hW]
  clear hW
  obtain ⟨M, eM⟩ : ∃ X, X = ((w.heap.size + 1) + 1) := ⟨_, rfl⟩
  rw [← eM] at HM ⊢
  have Mw : w.heap.size ≤ M := by omega
  obtain ⟨R, eR⟩ : ∃ X, X = (w.heap.size + 1) := ⟨_, rfl⟩
  rw [← eR] at HR ⊢
  have Rw : w.heap.size ≤ R := by omega
  obtain ⟨S, eS⟩ : ∃ X, X = w.heap.size := ⟨_, rfl⟩
  rw [← eS] at HS ⊢
  have Sw : w.heap.size ≤ S := by omega
  have nSR : S ≠ R := by omega
  have nRS : R ≠ S := by omega
  have nSM : S ≠ M := by omega
  have nMS : M ≠ S := by omega
  have nRM : R ≠ M := by omega
  have nMR : M ≠ R := by omega
  clear eS eR eM
  have n0M : 0 ≠ M := by have := HG0.out.lt; omega
  have HG := Lib.hid (HG0.out.later hB0)
  clear HG0
  rw [nonU_0 p q] at HM
  go_wp2_with (fail)
  go_loopw [5] (fun iv wr => ∃ (k : Nat), k ≤ 4 ∧ iv = .int .i64 k ∧ Hid (Below w.heap.size w wr) ∧ Hid (Own M (nums .u8 (nonU p q k) 12) wr) ∧ Hid (Own S ([.int .u64 sd, .int .u32 p, .int .u32 q, .int .u32 c]) wr) ∧ Hid (Own R (nums .u8 (fun _ => 0) 64) wr) ∧ Hid (Has 0 0 GL wr)) (fun iv _ => (4 - (intOf iv).toNat))
  case atStart => exact ⟨0, Nat.zero_le _, rfl, Lib.hid hB0, HM, HS, HR, HG⟩
  case round =>
    clear HM HS HR HG hB0
    obtain ⟨k, hk, rfl, HW, HM, HS, HR, HG⟩ := hrel
    by_cases hlt : k < 4
    · obtain ⟨m, em⟩ : ∃ m, 8 * k = m := ⟨_, rfl⟩
      obtain ⟨a, ea⟩ : ∃ a, 4 + k = a := ⟨_, rfl⟩
      obtain ⟨y, ey⟩ : ∃ y, byteN p k = y := ⟨_, rfl⟩
      obtain ⟨z, ez⟩ : ∃ z, byteN q k = z := ⟨_, rfl⟩
      have ME := Lib.hid (nonU_step p q k y z hlt ey ez)
      rw [ea] at ME
      have y2 : p / 2 ^ min m 32 % 256 = y := by rw [Nat.min_eq_left (by omega), ← ey, ← em]; rfl
      have z2 : q / 2 ^ min m 32 % 256 = z := by rw [Nat.min_eq_left (by omega), ← ez, ← em]; rfl
      have y3 : p / 2 ^ min m 64 % 256 = y := by rw [Nat.min_eq_left (by omega), ← ey, ← em]; rfl
      have z3 : q / 2 ^ min m 64 % 256 = z := by rw [Nat.min_eq_left (by omega), ← ez, ← em]; rfl
      have xf := HM.out.ok k (by rw [nums_length]; omega)
      have x0 := HM.out.at k _ (nums_at .u8 _ (show k < 12 by omega))
      have xg := HM.out.ok a (by rw [nums_length]; omega)
      have x1 := HM.out.at a _ (nums_at .u8 _ (show a < 12 by omega))
      have Ml := HM.out.lt
      have nka : k ≠ a := by omega
      have nak : a ≠ k := by omega
      have O1 := own_set (v := y) HM.out (show k < 12 by omega)
      have O2 := own_set (v := z) O1 (show a < 12 by omega)
      rw [ME.out] at O2
      have o1 := Lib.hid O2
      have o2 := Lib.hid (Own.far (c := M) (o := a) (vs := [.int .u8 z]) (Own.far (c := M) (o := k) (vs := [.int .u8 y]) HS.out nSM) nSM)
      have o3 := Lib.hid (Own.far (c := M) (o := a) (vs := [.int .u8 z]) (Own.far (c := M) (o := k) (vs := [.int .u8 y]) HR.out nRM) nRM)
      have o4 := Lib.hid (Below.setCells (Below.setCells HW.out Mw [.int .u8 y] k) Mw [.int .u8 z] a)
      have o5 := Lib.hid (Has.far (c := M) (o := a) (vs := [.int .u8 z]) (Has.far (c := M) (o := k) (vs := [.int .u8 y]) HG.out n0M) n0M)
      have s1 := HS.out.at 1 _ rfl
      have s2 := HS.out.at 2 _ rfl
      have Sl := HS.out.lt
      have k1 : (k : Int) < 4 := by omega
      have k2 : (k : Int) < 12 := by omega
      have k0 : (0 : Int) ≤ (k : Int) := by omega
      have wk : IntKind.i64.wrap ((k : Int) + 1) = (k : Int) + 1 := IntWalk.i64_in _ (by omega)
      have wm : IntKind.i64.wrap (8 * (k : Int)) = (m : Int) := by rw [IntWalk.i64_in _ (by omega)]; omega
      have wa : IntKind.i64.wrap (4 + (k : Int)) = (a : Int) := by rw [IntWalk.i64_in _ (by omega)]; omega
      have a0 : (0 : Int) ≤ (a : Int) := by omega
      have a1 : (a : Int) < 12 := by omega
      have m0 : (0 : Int) ≤ (m : Int) := by omega
      have HE := Lib.hid (show k + 1 ≤ 4 by omega)
      clear ey ez ME HM HS HR HW HG em ea hlt O1 O2 hk
      go_wp2_with (fail)
      go_roundw
      case rel => (first | exact ⟨k + 1, HE.out, by go_num, o4, o1, o2, o3, o5⟩ | ((repeat apply Exists.intro); exact ⟨⟨k + 1, HE.out, by go_num, o4, o1, o2, o3, o5⟩, rfl⟩))
      case measure => simp [intOf]; omega
    · have e4 : k = 4 := by omega
      subst e4
      rw [nonU_4] at HM
      go_upto_region 8 with fail
      obtain ⟨W1, e0⟩ : ∃ x, x = wr := ⟨_, rfl⟩
      rw [← e0] at HM HS HR HW HG ⊢
      clear e0
      clear hlt hk
      refine wp_region_fun 8 (by kernel_rfl) (by kernel_rfl) rfl (fun s b => ⟨#[(.agg #[.int .u64 sd, .int .u32 p, .int .u32 q, .int .u32 c]), .pointer (some ⟨S, 0, none⟩), .pointer (some ⟨R, 0, none⟩), .pointer (some ⟨M, 0, none⟩), u4, .int .i64 ((4 : Nat) : Int), .bool false, u7, u8, u9, u10, u11, u12, u13, u14, u15, u16, u17, u18, u19, u20, u21, u22, u23, u24, u25, s 26, s 27, s 28, s 29, s 30, s 31, s 32], []⟩) (fun d s b w => (d 7 = false → Below W1.heap.size W1 w) ∧ (d 0 = true → s 26 = .pointer (some ⟨S, 0, none⟩)) ∧ (d 1 = true → s 27 = .int .u64 sd) ∧ (d 2 = true → s 28 = (.agg (nums .u8 (keyF sd) 32).toArray)) ∧ (d 3 = true → s 29 = .pointer (some ⟨S, 3, none⟩)) ∧ (d 4 = true → s 30 = .int .u32 c) ∧ (d 5 = true → s 31 = (.agg (nums .u8 (nonF p q) 12).toArray)) ∧ (d 6 = true → s 32 = (.agg (nums .u8 (blkF (keyF sd) c (nonF p q)) 64).toArray)) ∧ (d 7 = true → ∀ j, j < 7 → d j = true) ∧ (d 7 = true → ∃ w2, Below W1.heap.size W1 w2 ∧ w = w2.setCells R 0 (nums .u8 (blkF (keyF sd) c (nonF p q)) 64))) rfl ?h0y1 (?sty1 : StepsF _ _ _ _ 8 _ _ [0, 1, 2, 3, 4, 5, 6, 7]) ?dny1
      case h0y1 => exact ⟨fun _ => Below.drew (Below.refl _ _), (fun h => nomatch h), (fun h => nomatch h), (fun h => nomatch h), (fun h => nomatch h), (fun h => nomatch h), (fun h => nomatch h), (fun h => nomatch h), (fun h => nomatch h), (fun h => nomatch h)⟩
      case sty1 =>
        refine StepsF.cons (o := _) rfl (ws := []) (by kernel_rfl) (by decide) (fun d s b w hF hd hw K_ hK => ?_) ?_
        · have hk : d 7 = false := by cases e : d 7 with | false => rfl | true => exact absurd ((p8_ hF.out) e 0 (by decide)) (by simp [hd])
          have hB : Below W1.heap.size W1 w := (p0_ hF.out) hk
          dsimp only
          go_simp
          exact hK.out (ups s 26 (.pointer (some ⟨S, 0, none⟩))) b _ ⟨(fun _ => hB), (fun _ => rfl), (p2_ hF.out), (p3_ hF.out), (p4_ hF.out), (p5_ hF.out), (p6_ hF.out), (p7_ hF.out), (fun h => absurd ((p8_ hF.out) h 0 (by decide)) (by simp [hd])), (fun h => absurd ((p8_ hF.out) h 0 (by decide)) (by simp [hd]))⟩
        refine StepsF.cons (o := _) rfl (ws := [0]) (by kernel_rfl) (by decide) (fun d s b w hF hd hw K_ hK => ?_) ?_
        · have hk : d 7 = false := by cases e : d 7 with | false => rfl | true => exact absurd ((p8_ hF.out) e 1 (by decide)) (by simp [hd])
          have hB : Below W1.heap.size W1 w := (p0_ hF.out) hk
          have e0 : s 26 = .pointer (some ⟨S, 0, none⟩) := (p1_ hF.out) (hw 0 (by decide))
          dsimp only
          have oS := HS.out.later hB
          have s0 := oS.at 0 _ rfl
          clear oS
          go_simp
          exact hK.out (ups (ups s 26 (.pointer (some ⟨S, 0, none⟩))) 27 (.int .u64 sd)) b _ ⟨(fun _ => hB), (fun _ => rfl), (fun _ => rfl), (p3_ hF.out), (p4_ hF.out), (p5_ hF.out), (p6_ hF.out), (p7_ hF.out), (fun h => absurd ((p8_ hF.out) h 1 (by decide)) (by simp [hd])), (fun h => absurd ((p8_ hF.out) h 1 (by decide)) (by simp [hd]))⟩
        refine StepsF.cons (o := _) rfl (ws := [1]) (by kernel_rfl) (by decide) (fun d s b w hF hd hw K_ hK => ?_) ?_
        · have hk : d 7 = false := by cases e : d 7 with | false => rfl | true => exact absurd ((p8_ hF.out) e 2 (by decide)) (by simp [hd])
          have hB : Below W1.heap.size W1 w := (p0_ hF.out) hk
          have e1 : s 27 = .int .u64 sd := (p2_ hF.out) (hw 1 (by decide))
          dsimp only
          go_simp
          go_at_call 12
          refine (Key_any sd FS.out _).mono ?_
          rintro e w1 ⟨rfl, hb⟩
          exact hK.out (ups (ups s 27 (.int .u64 sd)) 28 ((.agg (nums .u8 (keyF sd) 32).toArray))) b _ ⟨(fun _ => (Below.go hB hb)), (p1_ hF.out), (fun _ => rfl), (fun _ => rfl), (p4_ hF.out), (p5_ hF.out), (p6_ hF.out), (p7_ hF.out), (fun h => absurd ((p8_ hF.out) h 2 (by decide)) (by simp [hd])), (fun h => absurd ((p8_ hF.out) h 2 (by decide)) (by simp [hd]))⟩
        refine StepsF.cons (o := _) rfl (ws := []) (by kernel_rfl) (by decide) (fun d s b w hF hd hw K_ hK => ?_) ?_
        · have hk : d 7 = false := by cases e : d 7 with | false => rfl | true => exact absurd ((p8_ hF.out) e 3 (by decide)) (by simp [hd])
          have hB : Below W1.heap.size W1 w := (p0_ hF.out) hk
          dsimp only
          go_simp
          exact hK.out (ups s 29 (.pointer (some ⟨S, 3, none⟩))) b _ ⟨(fun _ => hB), (p1_ hF.out), (p2_ hF.out), (p3_ hF.out), (fun _ => rfl), (p5_ hF.out), (p6_ hF.out), (p7_ hF.out), (fun h => absurd ((p8_ hF.out) h 3 (by decide)) (by simp [hd])), (fun h => absurd ((p8_ hF.out) h 3 (by decide)) (by simp [hd]))⟩
        refine StepsF.cons (o := _) rfl (ws := [3]) (by kernel_rfl) (by decide) (fun d s b w hF hd hw K_ hK => ?_) ?_
        · have hk : d 7 = false := by cases e : d 7 with | false => rfl | true => exact absurd ((p8_ hF.out) e 4 (by decide)) (by simp [hd])
          have hB : Below W1.heap.size W1 w := (p0_ hF.out) hk
          have e3 : s 29 = .pointer (some ⟨S, 3, none⟩) := (p4_ hF.out) (hw 3 (by decide))
          dsimp only
          have oS := HS.out.later hB
          have s3 := oS.at 3 _ rfl
          clear oS
          go_simp
          exact hK.out (ups (ups s 29 (.pointer (some ⟨S, 3, none⟩))) 30 (.int .u32 c)) b _ ⟨(fun _ => hB), (p1_ hF.out), (p2_ hF.out), (p3_ hF.out), (fun _ => rfl), (fun _ => rfl), (p6_ hF.out), (p7_ hF.out), (fun h => absurd ((p8_ hF.out) h 4 (by decide)) (by simp [hd])), (fun h => absurd ((p8_ hF.out) h 4 (by decide)) (by simp [hd]))⟩
        refine StepsF.cons (o := _) rfl (ws := []) (by kernel_rfl) (by decide) (fun d s b w hF hd hw K_ hK => ?_) ?_
        · have hk : d 7 = false := by cases e : d 7 with | false => rfl | true => exact absurd ((p8_ hF.out) e 5 (by decide)) (by simp [hd])
          have hB : Below W1.heap.size W1 w := (p0_ hF.out) hk
          refine step_load (by simp [Region.wanted]) 47 _ rfl M 0 rfl (nums .u8 (nonF p q) 12) _ (HM.out.later hB).cell Tryd.underlying47 rfl (by kernel_rfl) ?_
          exact hK.out (ups s 31 ((.agg (nums .u8 (nonF p q) 12).toArray))) b _ ⟨(fun _ => hB), (p1_ hF.out), (p2_ hF.out), (p3_ hF.out), (p4_ hF.out), (p5_ hF.out), (fun _ => rfl), (p7_ hF.out), (fun h => absurd ((p8_ hF.out) h 5 (by decide)) (by simp [hd])), (fun h => absurd ((p8_ hF.out) h 5 (by decide)) (by simp [hd]))⟩
        refine StepsF.cons (o := _) rfl (ws := [2, 4, 5, 2]) (by kernel_rfl) (by decide) (fun d s b w hF hd hw K_ hK => ?_) ?_
        · have hk : d 7 = false := by cases e : d 7 with | false => rfl | true => exact absurd ((p8_ hF.out) e 6 (by decide)) (by simp [hd])
          have hB : Below W1.heap.size W1 w := (p0_ hF.out) hk
          have e2 : s 28 = (.agg (nums .u8 (keyF sd) 32).toArray) := (p3_ hF.out) (hw 2 (by decide))
          have e4 : s 30 = .int .u32 c := (p5_ hF.out) (hw 4 (by decide))
          have e5 : s 31 = (.agg (nums .u8 (nonF p q) 12).toArray) := (p6_ hF.out) (hw 5 (by decide))
          dsimp only
          go_simp
          go_at_call 11
          refine (Block_any (keyF sd) (nonF p q) c (fun i _ => in_keyF sd i) (fun i _ => in_nonF p q i) FC.out _ (HG.out.later hB)).mono ?_
          rintro e w1 ⟨rfl, hb⟩
          exact hK.out (ups (ups (ups (ups s 28 ((.agg (nums .u8 (keyF sd) 32).toArray))) 30 (.int .u32 c)) 31 ((.agg (nums .u8 (nonF p q) 12).toArray))) 32 ((.agg (nums .u8 (blkF (keyF sd) c (nonF p q)) 64).toArray))) b _ ⟨(fun _ => (Below.go hB hb)), (p1_ hF.out), (p2_ hF.out), (fun _ => rfl), (p4_ hF.out), (fun _ => rfl), (fun _ => rfl), (fun _ => rfl), (fun h => absurd ((p8_ hF.out) h 6 (by decide)) (by simp [hd])), (fun h => absurd ((p8_ hF.out) h 6 (by decide)) (by simp [hd]))⟩
        refine StepsF.cons (o := _) rfl (ws := [6, 6, 0, 1, 2, 3, 4, 5, 6]) (by kernel_rfl) (by decide) (fun d s b w hF hd hw K_ hK => ?_) ?_
        · have hB : Below W1.heap.size W1 w := (p0_ hF.out) hd
          have e0 : s 26 = .pointer (some ⟨S, 0, none⟩) := (p1_ hF.out) (hw 0 (by decide))
          have e1 : s 27 = .int .u64 sd := (p2_ hF.out) (hw 1 (by decide))
          have e2 : s 28 = (.agg (nums .u8 (keyF sd) 32).toArray) := (p3_ hF.out) (hw 2 (by decide))
          have e3 : s 29 = .pointer (some ⟨S, 3, none⟩) := (p4_ hF.out) (hw 3 (by decide))
          have e4 : s 30 = .int .u32 c := (p5_ hF.out) (hw 4 (by decide))
          have e5 : s 31 = (.agg (nums .u8 (nonF p q) 12).toArray) := (p6_ hF.out) (hw 5 (by decide))
          have e6 : s 32 = (.agg (nums .u8 (blkF (keyF sd) c (nonF p q)) 64).toArray) := (p7_ hF.out) (hw 6 (by decide))
          dsimp only
          have oz := HR.out.later hB
          have hst := store_nums (P := Tryd.prog) (n := 64) .u8 (blkF (keyF sd) c (nonF p q)) oz (by rw [nums_length])
          have oX := HR.out.later hB
          clear oX
          go_simp
          exact hK.out (ups (ups (ups (ups (ups (ups (ups s 26 (.pointer (some ⟨S, 0, none⟩))) 27 (.int .u64 sd)) 28 ((.agg (nums .u8 (keyF sd) 32).toArray))) 29 (.pointer (some ⟨S, 3, none⟩))) 30 (.int .u32 c)) 31 ((.agg (nums .u8 (nonF p q) 12).toArray))) 32 ((.agg (nums .u8 (blkF (keyF sd) c (nonF p q)) 64).toArray))) b _ ⟨(fun h => nomatch h), (fun _ => rfl), (fun _ => rfl), (fun _ => rfl), (fun _ => rfl), (fun _ => rfl), (fun _ => rfl), (fun _ => rfl), (fun _ j hj => by have hj2 := hw j (by simp; omega); simp [upd, hj2]), (fun _ => ⟨w, hB, rfl⟩)⟩
        exact StepsF.nil
      intro d s b y1 hF hall
      replace hF := Lib.hid hF
      obtain ⟨y1, hB, rfl⟩ := (q9_ hF.out) (hall 7 (by decide))
      try dsimp only
      have e0 : s 26 = .pointer (some ⟨S, 0, none⟩) := (p1_ hF.out) (hall 0 (by decide))
      have e1 : s 27 = .int .u64 sd := (p2_ hF.out) (hall 1 (by decide))
      have e2 : s 28 = (.agg (nums .u8 (keyF sd) 32).toArray) := (p3_ hF.out) (hall 2 (by decide))
      have e3 : s 29 = .pointer (some ⟨S, 3, none⟩) := (p4_ hF.out) (hall 3 (by decide))
      have e4 : s 30 = .int .u32 c := (p5_ hF.out) (hall 4 (by decide))
      have e5 : s 31 = (.agg (nums .u8 (nonF p q) 12).toArray) := (p6_ hF.out) (hall 5 (by decide))
      have e6 : s 32 = (.agg (nums .u8 (blkF (keyF sd) c (nonF p q)) 64).toArray) := (p7_ hF.out) (hall 6 (by decide))
      rw [e0, e1, e2, e3, e4, e5, e6]
      clear hall hF e0 e1 e2 e3 e4 e5 e6
      clear d s b
      have HR2 := Lib.hid (Own.store (vs := nums .u8 (blkF (keyF sd) c (nonF p q)) 64) (HR.out.later hB) (by simp [nums_length]))
      have hB2 : Below w.heap.size w (y1.setCells R 0 (nums .u8 (blkF (keyF sd) c (nonF p q)) 64)) := Below.setCells (Below.go HW.out hB) Rw (nums .u8 (blkF (keyF sd) c (nonF p q)) 64) 0
      clear HR HS HM HG HW hB
      generalize (y1.setCells R 0 (nums .u8 (blkF (keyF sd) c (nonF p q)) 64)) = wz at *
      trace_state
      go_wp2_with (fail)
      have hL := run_loadVar_mid (P := Tryd.prog) _ R 0 35 (nums .u8 (blkF (keyF sd) c (nonF p q)) 64) _ HR2.out.cell Tryd.underlying35 rfl (by kernel_rfl)
      exact bodyPost_ret (v := .agg (nums .u8 (blkF (keyF sd) c (nonF p q)) 64).toArray) (res_cell Tryd.results19 rfl hL) rfl ⟨rfl, hB2⟩
end Go.Proofs.YtbepgbpmgiihbaaDoor
