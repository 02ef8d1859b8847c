/- stream: Next. -/
import Derived.Test.YtbepgbpmgiihbaaDoorJG
import Derived.Lib.Hide
import Derived.LoopN
import Derived.LoopTactic
import Derived.Deep.Onto
import Derived.Deep.WholeRow
import Derived.Deep.QuietTactic
import Derived.BigQuiet
import Derived.Laws.Tables
namespace Go.Proofs.YtbepgbpmgiihbaaDoor
set_option linter.unusedVariables false
set_option maxRecDepth 2000
set_option linter.unusedSimpArgs false
open Go.RowKit
/-- the number of a spot: four bytes of its block -/
def atF (sd p q bo di : Int) : Int := word (blkF (keyF sd) (cntF bo di) (nonF p q)) (idxN di)
theorem in_atF (sd p q bo di : Int) : in32 (atF sd p q bo di) := in_word fun i _ _ => in_blkF _ _ _ i
theorem eqSpot (s p q c d : Int) (w : World) : (Op.equalIn 10000 34 (.agg #[.int .u64 s, .int .u32 p, .int .u32 q, .int .u32 c]) (.agg #[.int .u64 s, .int .u32 p, .int .u32 q, .int .u32 d])).run Tryd.prog w = .ok (decide (c = d)) w := by
  rw [show (10000 : Nat) = 9998 + 2 from rfl, Op.equalIn]
  simp only [Sem.run_bind, run_underlying Tryd.underlying34, Result.andThen_ok]
  by_cases e : c = d <;> simp [go_sem, List.range', e]
theorem built_last (s2 p2 q2 c2 : Int) (f : Nat → Int) : Tryd.prog.built 37 [(0, .agg #[.int .u64 s2, .int .u32 p2, .int .u32 q2, .int .u32 c2]), (1, .agg (nums .u8 f 64).toArray), (2, .bool true)] = some (lastL s2 p2 q2 c2 f true).toArray := by
  kernel_rfl
theorem step_built {P : Program} {ops : Array Oper} {o : Oper} {a : Act} {w : World} {K : Act → World → Prop} {Q : Exit → Act → World → Prop} {E : Prop}
    (hw : Region.wanted o (yielded ops a.tmps) = true) (t : TypeId) (parts : Array (Nat × Operand)) (ho : o.op = .build t parts) (vs : List (Nat × Value)) (hv : (parts.map fun (i, x) => (i, a.eval x)).toList = vs)
    (cells : Array Value) (hb : P.built t vs = some cells) (h : K (a.put o.dst (.agg cells)) w) : if Region.wanted o (yielded ops a.tmps) = true then Oper.wp P o a w K Q else E := by
  rw [if_pos hw]
  subst hv
  refine wp_build t parts ho (by rw [hb]; rfl) ?_
  rw [hb]
  exact h
theorem last_size (s2 p2 q2 c2 : Int) (f : Nat → Int) (kn : Bool) : (lastL s2 p2 q2 c2 f kn).toArray.size = 69 := by rw [List.size_toArray, last_len]
attribute [local go_sem] last_len last_size
theorem has_four {b o n i : Nat} {k : IntKind} {f : Nat → Int} {W : World} (h : Has b o (nums k f n) W) (hm : i + 4 ≤ n) : Has b (o + i) [.int k (f i), .int k (f (i + 1)), .int k (f (i + 2)), .int k (f (i + 3))] W := has_drop h hm

set_option maxHeartbeats 4000000 in
theorem Next_fresh (B : Nat) (sd p q bo di : Int) (hs : in64u sd) (hp : in32 p) (hq : in32 q) (hb : inI bo) (hd : inI di) (w : World) (hg : Has 0 0 GL w) (hB : Own B (srcF sd p q none) w) :
    Calls Tryd.prog 10 #[.pointer (some ⟨B, 0, none⟩), .int .i64 bo, .int .i64 di] w fun e w' => e = .returned (.int .u32 (atF sd p q bo di)) ∧ But B w w' ∧ Own B (srcF sd p q (some (cntF bo di))) w' := by
  have FS := Lib.hid hs; have FP := Lib.hid hp; have FQ := Lib.hid hq; have HG0 := Lib.hid hg; have HB := Lib.hid hB
  have FF := Lib.hid (find_any bo di hb hd)
  have FC := Lib.hid (in_cntF bo di)
  have FI := Lib.hid (idxN_le di)
  unfold atF
  generalize cntF bo di = C at *
  generalize idxN di = X at *
  have b0 := HB.out.at 0 _ rfl; have b1 := HB.out.at 1 _ rfl; have b2 := HB.out.at 2 _ rfl; have b3 := HB.out.at 3 _ rfl; have b4 := HB.out.at 4 _ rfl
  have Bl := HB.out.lt
  clear hs hp hq hb hd hg hB
  go_enter Tryd.func10, Tryd.ntmps10
  go_wp2_with (fail)
  go_at_call 18
  refine (FF.out _).mono ?_
  rintro e w1 ⟨rfl, hb⟩
  clear b0 b1 b2 b3 b4
  have HB1 := Lib.hid (HB.out.later hb)
  have b0 := HB1.out.at 0 _ rfl; have b1 := HB1.out.at 1 _ rfl; have b2 := HB1.out.at 2 _ rfl; have b3 := HB1.out.at 3 _ rfl
  have HG := Lib.hid (HG0.out.later hb)
  go_upto_region 6 with fail
  obtain ⟨w2, hW⟩ : ∃ w2, w2 = (w1.alloc (.cells #[.int .u64 sd, .int .u32 p, .int .u32 q, .int .u32 C] 34)) := ⟨_, rfl⟩
  have hBx : Below w1.heap.size w1 w2 := hW ▸ (Below.al (Below.refl _ _))
  have HV : Hid (Own w1.heap.size ([.int .u64 sd, .int .u32 p, .int .u32 q, .int .u32 C]) w2) := Lib.hid (hW ▸ (show Own w1.heap.size ([.int .u64 sd, .int .u32 p, .int .u32 q, .int .u32 C]) (w1.alloc (.cells #[.int .u64 sd, .int .u32 p, .int .u32 q, .int .u32 C] 34)) from Own.newAt (by simp)))
  rw [← hW]
  clear hW
  obtain ⟨V, eV⟩ : ∃ X, X = w1.heap.size := ⟨_, rfl⟩
  rw [← eV] at HV ⊢
  have Vw : w1.heap.size ≤ V := by omega
  clear eV
  have HB2 := Lib.hid (HB1.out.later hBx)
  have HG2 := Lib.hid (HG.out.later hBx)
  have nVB : V ≠ B := by have := HB1.out.lt; omega
  have nBV : B ≠ V := Ne.symm nVB
  have hB0 := Below.go hb hBx
  have hVw : w.heap.size ≤ V := by have := hb.size; omega
  clear b0 b1 b2 b3 HB1 HG hb hBx Vw
  have v0 := HV.out.at 0 _ rfl; have v1 := HV.out.at 1 _ rfl; have v2 := HV.out.at 2 _ rfl; have v3 := HV.out.at 3 _ rfl
  have b5 := HB2.out.at 5 _ rfl; have b6 := HB2.out.at 6 _ rfl; have b7 := HB2.out.at 7 _ rfl; have b8 := HB2.out.at 8 _ rfl; have b9 := HB2.out.at 73 _ (src_known _ _ _ _ _ _ _ _ _)
  have Bl2 := HB2.out.lt
  have Vl2 := HV.out.lt
  go_quiet (fail)
  go_upto_region 7 with fail
  obtain ⟨w3, e3⟩ : ∃ x, x = w2.drewN nq := ⟨_, rfl⟩
  have hBd : Below w2.heap.size w2 w3 := e3 ▸ below_drewN (Below.refl _ _) _
  rw [← e3]
  have HB3 := Lib.hid (HB2.out.later hBd)
  have HV3 := Lib.hid (HV.out.later hBd)
  have HG3 := Lib.hid (HG2.out.later hBd)
  have hB3 := Below.go hB0 hBd
  clear e3 HB2 HV HG2 hBd hB0 v0 v1 v2 v3 b5 b6 b7 b8 b9 Bl2 Vl2
  refine wp_region_fun 8 (by kernel_rfl) (by kernel_rfl) rfl (fun s b => ⟨#[.pointer (some ⟨B, 0, none⟩), .int .i64 bo, .int .i64 di, undef, undef, undef, .int .u32 0, .int .u32 C, .int .i64 (X : Int), .pointer (some ⟨V, 0, none⟩), .pointer (some ⟨B, 0, none⟩), .bool false, .bool false, .pointer (some ⟨B, 0, none⟩), .pointer (some ⟨B, 0, none⟩), .pointer (some ⟨B, 4, none⟩), .bool true, .bool false, .bool false, .tuple #[.int .u32 C, .int .i64 (X : Int)], .int .i64 bo, .int .i64 di, .tuple #[.int .u32 C, .int .i64 (X : Int)], .int .u32 C, .int .i64 (X : Int), .pointer (some ⟨B, 0, none⟩), .pointer (some ⟨B, 0, none⟩), .pointer (some ⟨B, 0, none⟩), .agg #[.int .u64 sd, .int .u32 p, .int .u32 q, .int .u32 0], .int .u32 C, .pointer (some ⟨V, 3, none⟩), .pointer (some ⟨B, 0, none⟩), .pointer (some ⟨B, 0, none⟩), .pointer (some ⟨B, 5, none⟩), .pointer (some ⟨B, 73, none⟩), .bool false, .bool true, .bool true, undef, undef, undef, undef, undef, undef, undef, .bool true, s 46, s 47, s 48, s 49, s 50, s 51, s 52, undef, undef, undef, undef, undef, undef, undef], []⟩) (fun d s b w => (d 7 = false → Below w3.heap.size w3 w) ∧ (d 0 = true → s 46 = .pointer (some ⟨B, 0, none⟩)) ∧ (d 1 = true → s 47 = .agg #[.int .u64 sd, .int .u32 p, .int .u32 q, .int .u32 C]) ∧ (d 2 = true → s 48 = .agg #[.int .u64 sd, .int .u32 p, .int .u32 q, .int .u32 C]) ∧ (d 3 = true → s 49 = (.agg (nums .u8 (blkF (keyF sd) C (nonF p q)) 64).toArray)) ∧ (d 4 = true → s 50 = .agg (lastL sd p q C (blkF (keyF sd) C (nonF p q)) true).toArray) ∧ (d 5 = true → s 51 = .pointer (some ⟨B, 0, none⟩)) ∧ (d 6 = true → s 52 = .pointer (some ⟨B, 5, none⟩)) ∧ (d 7 = true → ∀ j, j < 7 → d j = true) ∧ (d 7 = true → ∃ w2, Below w3.heap.size w3 w2 ∧ w = w2.setCells B 5 (lastL sd p q C (blkF (keyF sd) C (nonF p q)) true)) ∧ (d 6 = true → d 5 = true)) rfl ?h0y1 (?sty1 : StepsF _ _ _ _ 8 _ _ [0, 1, 2, 3, 4, 5, 6, 7]) ?dny1
  case h0y1 => exact ⟨fun _ => Below.drew (Below.refl _ _), (fun h => nomatch h), (fun h => nomatch h), (fun h => nomatch h), (fun h => nomatch h), (fun h => nomatch h), (fun h => nomatch h), (fun h => nomatch h), (fun h => nomatch h), (fun h => nomatch h), (fun h => nomatch h)⟩
  case sty1 =>
    refine StepsF.cons (o := _) rfl (ws := []) (by kernel_rfl) (by decide) (fun d s b w hF hd hw K_ hK => ?_) ?_
    · have hk : d 7 = false := by cases e : d 7 with | false => rfl | true => exact absurd ((p8_ hF.out) e 0 (by decide)) (by simp [hd])
      have hB : Below w3.heap.size w3 w := (p0_ hF.out) hk
      dsimp only
      go_simp
      exact hK.out (ups s 46 (.pointer (some ⟨B, 0, none⟩))) b _ ⟨(fun _ => hB), (fun _ => rfl), (p2_ hF.out), (p3_ hF.out), (p4_ hF.out), (p5_ hF.out), (p6_ hF.out), (p7_ hF.out), (fun h => absurd ((p8_ hF.out) h 0 (by decide)) (by simp [hd])), (fun h => absurd ((p8_ hF.out) h 0 (by decide)) (by simp [hd])), (q10_ hF.out)⟩
    refine StepsF.cons (o := _) rfl (ws := []) (by kernel_rfl) (by decide) (fun d s b w hF hd hw K_ hK => ?_) ?_
    · have hk : d 7 = false := by cases e : d 7 with | false => rfl | true => exact absurd ((p8_ hF.out) e 1 (by decide)) (by simp [hd])
      have hB : Below w3.heap.size w3 w := (p0_ hF.out) hk
      dsimp only
      have oV := HV3.out.later hB
      have v0 := oV.at 0 _ rfl
      have v1 := oV.at 1 _ rfl
      have v2 := oV.at 2 _ rfl
      have v3 := oV.at 3 _ rfl
      clear oV
      go_simp
      exact hK.out (ups s 47 (.agg #[.int .u64 sd, .int .u32 p, .int .u32 q, .int .u32 C])) b _ ⟨(fun _ => hB), (p1_ hF.out), (fun _ => rfl), (p3_ hF.out), (p4_ hF.out), (p5_ hF.out), (p6_ hF.out), (p7_ hF.out), (fun h => absurd ((p8_ hF.out) h 1 (by decide)) (by simp [hd])), (fun h => absurd ((p8_ hF.out) h 1 (by decide)) (by simp [hd])), (q10_ hF.out)⟩
    refine StepsF.cons (o := _) rfl (ws := []) (by kernel_rfl) (by decide) (fun d s b w hF hd hw K_ hK => ?_) ?_
    · have hk : d 7 = false := by cases e : d 7 with | false => rfl | true => exact absurd ((p8_ hF.out) e 2 (by decide)) (by simp [hd])
      have hB : Below w3.heap.size w3 w := (p0_ hF.out) hk
      dsimp only
      have oV := HV3.out.later hB
      have v0 := oV.at 0 _ rfl
      have v1 := oV.at 1 _ rfl
      have v2 := oV.at 2 _ rfl
      have v3 := oV.at 3 _ rfl
      clear oV
      go_simp
      exact hK.out (ups s 48 (.agg #[.int .u64 sd, .int .u32 p, .int .u32 q, .int .u32 C])) b _ ⟨(fun _ => hB), (p1_ hF.out), (p2_ hF.out), (fun _ => rfl), (p4_ hF.out), (p5_ hF.out), (p6_ hF.out), (p7_ hF.out), (fun h => absurd ((p8_ hF.out) h 2 (by decide)) (by simp [hd])), (fun h => absurd ((p8_ hF.out) h 2 (by decide)) (by simp [hd])), (q10_ hF.out)⟩
    refine StepsF.cons (o := _) rfl (ws := [2]) (by kernel_rfl) (by decide) (fun d s b w hF hd hw K_ hK => ?_) ?_
    · have hk : d 7 = false := by cases e : d 7 with | false => rfl | true => exact absurd ((p8_ hF.out) e 3 (by decide)) (by simp [hd])
      have hB : Below w3.heap.size w3 w := (p0_ hF.out) hk
      have e2 : s 48 = .agg #[.int .u64 sd, .int .u32 p, .int .u32 q, .int .u32 C] := (p3_ hF.out) (hw 2 (by decide))
      dsimp only
      go_simp
      go_at_call 19
      refine (spot_any sd p q C FS.out FP.out FQ.out FC.out _ (HG3.out.later hB)).mono ?_
      rintro e w1 ⟨rfl, hb⟩
      exact hK.out (ups (ups s 48 (.agg #[.int .u64 sd, .int .u32 p, .int .u32 q, .int .u32 C])) 49 ((.agg (nums .u8 (blkF (keyF sd) C (nonF p q)) 64).toArray))) b _ ⟨(fun _ => (Below.go hB hb)), (p1_ hF.out), (p2_ hF.out), (fun _ => rfl), (fun _ => rfl), (p5_ hF.out), (p6_ hF.out), (p7_ hF.out), (fun h => absurd ((p8_ hF.out) h 3 (by decide)) (by simp [hd])), (fun h => absurd ((p8_ hF.out) h 3 (by decide)) (by simp [hd])), (q10_ hF.out)⟩
    refine StepsF.cons (o := _) rfl (ws := [1, 3]) (by kernel_rfl) (by decide) (fun d s b w hF hd hw K_ hK => ?_) ?_
    · have hk : d 7 = false := by cases e : d 7 with | false => rfl | true => exact absurd ((p8_ hF.out) e 4 (by decide)) (by simp [hd])
      have hB : Below w3.heap.size w3 w := (p0_ hF.out) hk
      have e1 : s 47 = .agg #[.int .u64 sd, .int .u32 p, .int .u32 q, .int .u32 C] := (p2_ hF.out) (hw 1 (by decide))
      have e3 : s 49 = (.agg (nums .u8 (blkF (keyF sd) C (nonF p q)) 64).toArray) := (p4_ hF.out) (hw 3 (by decide))
      refine step_built (by simp [Region.wanted]) _ _ rfl [(0, s 47), (1, s 49), (2, .bool true)] (by kernel_rfl) (lastL sd p q C (blkF (keyF sd) C (nonF p q)) true).toArray (by rw [e1, e3]; exact built_last _ _ _ _ _) ?_
      exact hK.out (ups s 50 (.agg (lastL sd p q C (blkF (keyF sd) C (nonF p q)) true).toArray)) b _ ⟨(fun _ => hB), (p1_ hF.out), (p2_ hF.out), (p3_ hF.out), (p4_ hF.out), (fun _ => rfl), (p6_ hF.out), (p7_ hF.out), (fun h => absurd ((p8_ hF.out) h 4 (by decide)) (by simp [hd])), (fun h => absurd ((p8_ hF.out) h 4 (by decide)) (by simp [hd])), (q10_ hF.out)⟩
    refine StepsF.cons (o := _) rfl (ws := [0, 0, 1, 2, 3, 4]) (by kernel_rfl) (by decide) (fun d s b w hF hd hw K_ hK => ?_) ?_
    · have hk : d 7 = false := by cases e : d 7 with | false => rfl | true => exact absurd ((p8_ hF.out) e 5 (by decide)) (by simp [hd])
      have hB : Below w3.heap.size w3 w := (p0_ hF.out) hk
      have e0 : s 46 = .pointer (some ⟨B, 0, none⟩) := (p1_ hF.out) (hw 0 (by decide))
      have e1 : s 47 = .agg #[.int .u64 sd, .int .u32 p, .int .u32 q, .int .u32 C] := (p2_ hF.out) (hw 1 (by decide))
      have e2 : s 48 = .agg #[.int .u64 sd, .int .u32 p, .int .u32 q, .int .u32 C] := (p3_ hF.out) (hw 2 (by decide))
      have e3 : s 49 = (.agg (nums .u8 (blkF (keyF sd) C (nonF p q)) 64).toArray) := (p4_ hF.out) (hw 3 (by decide))
      have e4 : s 50 = .agg (lastL sd p q C (blkF (keyF sd) C (nonF p q)) true).toArray := (p5_ hF.out) (hw 4 (by decide))
      dsimp only
      go_simp
      exact hK.out (ups (ups (ups (ups (ups (ups s 46 (.pointer (some ⟨B, 0, none⟩))) 47 (.agg #[.int .u64 sd, .int .u32 p, .int .u32 q, .int .u32 C])) 48 (.agg #[.int .u64 sd, .int .u32 p, .int .u32 q, .int .u32 C])) 49 ((.agg (nums .u8 (blkF (keyF sd) C (nonF p q)) 64).toArray))) 50 (.agg (lastL sd p q C (blkF (keyF sd) C (nonF p q)) true).toArray)) 51 (.pointer (some ⟨B, 0, none⟩))) b _ ⟨(fun _ => hB), (fun _ => rfl), (fun _ => rfl), (fun _ => rfl), (fun _ => rfl), (fun _ => rfl), (fun _ => rfl), (p7_ hF.out), (fun h => absurd ((p8_ hF.out) h 5 (by decide)) (by simp [hd])), (fun h => absurd ((p8_ hF.out) h 5 (by decide)) (by simp [hd])), (fun _ => rfl)⟩
    refine StepsF.cons (o := _) rfl (ws := [5, 0, 1, 2, 3, 4]) (by kernel_rfl) (by decide) (fun d s b w hF hd hw K_ hK => ?_) ?_
    · have hk : d 7 = false := by cases e : d 7 with | false => rfl | true => exact absurd ((p8_ hF.out) e 6 (by decide)) (by simp [hd])
      have hB : Below w3.heap.size w3 w := (p0_ hF.out) hk
      have e0 : s 46 = .pointer (some ⟨B, 0, none⟩) := (p1_ hF.out) (hw 0 (by decide))
      have e1 : s 47 = .agg #[.int .u64 sd, .int .u32 p, .int .u32 q, .int .u32 C] := (p2_ hF.out) (hw 1 (by decide))
      have e2 : s 48 = .agg #[.int .u64 sd, .int .u32 p, .int .u32 q, .int .u32 C] := (p3_ hF.out) (hw 2 (by decide))
      have e3 : s 49 = (.agg (nums .u8 (blkF (keyF sd) C (nonF p q)) 64).toArray) := (p4_ hF.out) (hw 3 (by decide))
      have e4 : s 50 = .agg (lastL sd p q C (blkF (keyF sd) C (nonF p q)) true).toArray := (p5_ hF.out) (hw 4 (by decide))
      have e5 : s 51 = .pointer (some ⟨B, 0, none⟩) := (p6_ hF.out) (hw 5 (by decide))
      dsimp only
      go_simp
      exact hK.out (ups (ups (ups (ups (ups (ups (ups s 46 (.pointer (some ⟨B, 0, none⟩))) 47 (.agg #[.int .u64 sd, .int .u32 p, .int .u32 q, .int .u32 C])) 48 (.agg #[.int .u64 sd, .int .u32 p, .int .u32 q, .int .u32 C])) 49 ((.agg (nums .u8 (blkF (keyF sd) C (nonF p q)) 64).toArray))) 50 (.agg (lastL sd p q C (blkF (keyF sd) C (nonF p q)) true).toArray)) 51 (.pointer (some ⟨B, 0, none⟩))) 52 (.pointer (some ⟨B, 5, none⟩))) b _ ⟨(fun _ => hB), (fun _ => rfl), (fun _ => rfl), (fun _ => rfl), (fun _ => rfl), (fun _ => rfl), (fun _ => rfl), (fun _ => rfl), (fun h => absurd ((p8_ hF.out) h 6 (by decide)) (by simp [hd])), (fun h => absurd ((p8_ hF.out) h 6 (by decide)) (by simp [hd])), (fun _ => hw 5 (by decide))⟩
    refine StepsF.cons (o := _) rfl (ws := [6, 4, 3, 0, 1, 2, 3, 4]) (by kernel_rfl) (by decide) (fun d s b w hF hd hw K_ hK => ?_) ?_
    · have hB : Below w3.heap.size w3 w := (p0_ hF.out) hd
      have e0 : s 46 = .pointer (some ⟨B, 0, none⟩) := (p1_ hF.out) (hw 0 (by decide))
      have e1 : s 47 = .agg #[.int .u64 sd, .int .u32 p, .int .u32 q, .int .u32 C] := (p2_ hF.out) (hw 1 (by decide))
      have e2 : s 48 = .agg #[.int .u64 sd, .int .u32 p, .int .u32 q, .int .u32 C] := (p3_ hF.out) (hw 2 (by decide))
      have e3 : s 49 = (.agg (nums .u8 (blkF (keyF sd) C (nonF p q)) 64).toArray) := (p4_ hF.out) (hw 3 (by decide))
      have e4 : s 50 = .agg (lastL sd p q C (blkF (keyF sd) C (nonF p q)) true).toArray := (p5_ hF.out) (hw 4 (by decide))
      have e6 : s 52 = .pointer (some ⟨B, 5, none⟩) := (p7_ hF.out) (hw 6 (by decide))
      dsimp only
      have oz := HB3.out.later hB
      have hst := store_last (P := Tryd.prog) sd p q C (blkF (keyF sd) C (nonF p q)) true oz
      have oX := HB3.out.later hB
      clear oX
      go_simp
      exact hK.out (ups (ups (ups (ups (ups (ups s 46 (.pointer (some ⟨B, 0, none⟩))) 47 (.agg #[.int .u64 sd, .int .u32 p, .int .u32 q, .int .u32 C])) 48 (.agg #[.int .u64 sd, .int .u32 p, .int .u32 q, .int .u32 C])) 49 ((.agg (nums .u8 (blkF (keyF sd) C (nonF p q)) 64).toArray))) 50 (.agg (lastL sd p q C (blkF (keyF sd) C (nonF p q)) true).toArray)) 52 (.pointer (some ⟨B, 5, none⟩))) b _ ⟨(fun h => nomatch h), (fun _ => rfl), (fun _ => rfl), (fun _ => rfl), (fun _ => rfl), (fun _ => rfl), (p6_ hF.out), (fun _ => rfl), (fun _ j hj => by by_cases h5 : j = 5; (subst h5; have h2 := (q10_ hF.out) (hw 6 (by decide)); simp [upd, h2]); (have hj2 := hw j (by simp; omega); simp [upd, hj2])), (fun _ => ⟨w, hB, rfl⟩), (q10_ hF.out)⟩
    exact StepsF.nil
  intro d s b y1 hF hall
  replace hF := Lib.hid hF
  obtain ⟨y1, hB, rfl⟩ := (p9_ hF.out) (hall 7 (by decide))
  try dsimp only
  have e0 : s 46 = .pointer (some ⟨B, 0, none⟩) := (p1_ hF.out) (hall 0 (by decide))
  have e1 : s 47 = .agg #[.int .u64 sd, .int .u32 p, .int .u32 q, .int .u32 C] := (p2_ hF.out) (hall 1 (by decide))
  have e2 : s 48 = .agg #[.int .u64 sd, .int .u32 p, .int .u32 q, .int .u32 C] := (p3_ hF.out) (hall 2 (by decide))
  have e3 : s 49 = (.agg (nums .u8 (blkF (keyF sd) C (nonF p q)) 64).toArray) := (p4_ hF.out) (hall 3 (by decide))
  have e4 : s 50 = .agg (lastL sd p q C (blkF (keyF sd) C (nonF p q)) true).toArray := (p5_ hF.out) (hall 4 (by decide))
  have e5 : s 51 = .pointer (some ⟨B, 0, none⟩) := (p6_ hF.out) (hall 5 (by decide))
  have e6 : s 52 = .pointer (some ⟨B, 5, none⟩) := (p7_ hF.out) (hall 6 (by decide))
  rw [e0, e1, e2, e3, e4, e5, e6]
  clear hall hF e0 e1 e2 e3 e4 e5 e6
  clear d s b
  have HB4 := Lib.hid (own_last C (HB3.out.later hB))
  have hBut : But B w (y1.setCells B 5 (lastL sd p q C (blkF (keyF sd) C (nonF p q)) true)) := (But.of (Below.go hB3 hB) Bl).trans But.store
  clear HB3 HV3 HG3 hB3 hB
  generalize (y1.setCells B 5 (lastL sd p q C (blkF (keyF sd) C (nonF p q)) true)) = wz at *
  have HBk := Lib.hid (has_blk10 HB4.out)
  have X6 := FI.out
  have x0 : (0 : Int) ≤ (X : Int) := by omega
  have x1 : (X : Int) ≤ 64 := by omega
  have x2 : X ≤ 64 := by omega
  go_wp2_with (fail)
  go_at_call 20
  refine (snumber_any B (9 + X) (64 - X) (64 - X) _ _ _ _ (in_blkF _ _ _ _) (in_blkF _ _ _ _) (in_blkF _ _ _ _) (in_blkF _ _ _ _) (by omega) _ (has_four HBk.out (show X + 4 ≤ 64 by omega))).mono ?_
  rintro e w5 ⟨rfl, hb5⟩
  have hBut2 := hBut.trans (But.of hb5 HB4.out.lt)
  have HB5 := HB4.out.later hb5
  clear HBk X6 x0 x1 x2 hBut HB4 hb5
  rw [show (blkF (keyF sd) C (nonF p q) X + 256 * blkF (keyF sd) C (nonF p q) (X + 1) + 65536 * blkF (keyF sd) C (nonF p q) (X + 2) + 16777216 * blkF (keyF sd) C (nonF p q) (X + 3)) = word (blkF (keyF sd) C (nonF p q)) X from rfl]
  obtain ⟨z, ez⟩ : ∃ z, word (blkF (keyF sd) C (nonF p q)) X = z := ⟨_, rfl⟩
  rw [ez]
  have EZ := Lib.hid ez
  clear ez
  go_wp2_with (fail)
  go_ret
  exact ⟨by rw [EZ.out]; rfl, hBut2, HB5⟩

set_option maxHeartbeats 4000000 in
theorem Next_same (B : Nat) (sd p q bo di : Int) (hs : in64u sd) (hp : in32 p) (hq : in32 q) (hb : inI bo) (hd : inI di) (w : World) (hg : Has 0 0 GL w) (hB : Own B (srcF sd p q (some (cntF bo di))) w) :
    Calls Tryd.prog 10 #[.pointer (some ⟨B, 0, none⟩), .int .i64 bo, .int .i64 di] w fun e w' => e = .returned (.int .u32 (atF sd p q bo di)) ∧ But B w w' ∧ Own B (srcF sd p q (some (cntF bo di))) w' := by
  have FS := Lib.hid hs; have FP := Lib.hid hp; have FQ := Lib.hid hq; have HG0 := Lib.hid hg; have HB := Lib.hid hB
  have FF := Lib.hid (find_any bo di hb hd)
  have FC := Lib.hid (in_cntF bo di)
  have FI := Lib.hid (idxN_le di)
  unfold atF
  generalize cntF bo di = C at *
  generalize idxN di = X at *
  have b0 := HB.out.at 0 _ rfl; have b1 := HB.out.at 1 _ rfl; have b2 := HB.out.at 2 _ rfl; have b3 := HB.out.at 3 _ rfl; have b4 := HB.out.at 4 _ rfl
  have Bl := HB.out.lt
  clear hs hp hq hb hd hg hB
  go_enter Tryd.func10, Tryd.ntmps10
  go_wp2_with (fail)
  go_at_call 18
  refine (FF.out _).mono ?_
  rintro e w1 ⟨rfl, hb⟩
  clear b0 b1 b2 b3 b4
  have HB1 := Lib.hid (HB.out.later hb)
  have b0 := HB1.out.at 0 _ rfl; have b1 := HB1.out.at 1 _ rfl; have b2 := HB1.out.at 2 _ rfl; have b3 := HB1.out.at 3 _ rfl
  have HG := Lib.hid (HG0.out.later hb)
  go_upto_region 6 with fail
  obtain ⟨w2, hW⟩ : ∃ w2, w2 = (w1.alloc (.cells #[.int .u64 sd, .int .u32 p, .int .u32 q, .int .u32 C] 34)) := ⟨_, rfl⟩
  have hBx : Below w1.heap.size w1 w2 := hW ▸ (Below.al (Below.refl _ _))
  have HV : Hid (Own w1.heap.size ([.int .u64 sd, .int .u32 p, .int .u32 q, .int .u32 C]) w2) := Lib.hid (hW ▸ (show Own w1.heap.size ([.int .u64 sd, .int .u32 p, .int .u32 q, .int .u32 C]) (w1.alloc (.cells #[.int .u64 sd, .int .u32 p, .int .u32 q, .int .u32 C] 34)) from Own.newAt (by simp)))
  rw [← hW]
  clear hW
  obtain ⟨V, eV⟩ : ∃ X, X = w1.heap.size := ⟨_, rfl⟩
  rw [← eV] at HV ⊢
  have Vw : w1.heap.size ≤ V := by omega
  clear eV
  have HB2 := Lib.hid (HB1.out.later hBx)
  have HG2 := Lib.hid (HG.out.later hBx)
  have nVB : V ≠ B := by have := HB1.out.lt; omega
  have nBV : B ≠ V := Ne.symm nVB
  have hB0 := Below.go hb hBx
  have hVw : w.heap.size ≤ V := by have := hb.size; omega
  clear b0 b1 b2 b3 HB1 HG hb hBx Vw
  have v0 := HV.out.at 0 _ rfl; have v1 := HV.out.at 1 _ rfl; have v2 := HV.out.at 2 _ rfl; have v3 := HV.out.at 3 _ rfl
  have b5 := HB2.out.at 5 _ rfl; have b6 := HB2.out.at 6 _ rfl; have b7 := HB2.out.at 7 _ rfl; have b8 := HB2.out.at 8 _ rfl; have b9 := HB2.out.at 73 _ (src_known _ _ _ _ _ _ _ _ _)
  have Bl2 := HB2.out.lt
  have Vl2 := HV.out.lt
  have hq : ∀ w, (Op.equalIn 10000 34 (.agg #[.int .u64 sd, .int .u32 p, .int .u32 q, .int .u32 C]) (.agg #[.int .u64 sd, .int .u32 p, .int .u32 q, .int .u32 C])).run Tryd.prog w = .ok true w := fun w => by rw [eqSpot]; simp
  go_quiet (fail)
  obtain ⟨w3, e3⟩ : ∃ x, x = w2.drewN nq := ⟨_, rfl⟩
  have hBd : Below w2.heap.size w2 w3 := e3 ▸ below_drewN (Below.refl _ _) _
  rw [← e3]
  have HB4 := Lib.hid (HB2.out.later hBd)
  have hBut : But B w w3 := But.of (Below.go hB0 hBd) Bl
  clear e3 HB2 HV HG2 hBd hB0 v0 v1 v2 v3 b5 b6 b7 b8 b9 Bl2 Vl2 hq
  have HBk := Lib.hid (has_blk10 HB4.out)
  have X6 := FI.out
  have x0 : (0 : Int) ≤ (X : Int) := by omega
  have x1 : (X : Int) ≤ 64 := by omega
  have x2 : X ≤ 64 := by omega
  go_wp2_with (fail)
  go_at_call 20
  refine (snumber_any B (9 + X) (64 - X) (64 - X) _ _ _ _ (in_blkF _ _ _ _) (in_blkF _ _ _ _) (in_blkF _ _ _ _) (in_blkF _ _ _ _) (by omega) _ (has_four HBk.out (show X + 4 ≤ 64 by omega))).mono ?_
  rintro e w5 ⟨rfl, hb5⟩
  have hBut2 := hBut.trans (But.of hb5 HB4.out.lt)
  have HB5 := HB4.out.later hb5
  clear HBk X6 x0 x1 x2 hBut HB4 hb5
  rw [show (blkF (keyF sd) C (nonF p q) X + 256 * blkF (keyF sd) C (nonF p q) (X + 1) + 65536 * blkF (keyF sd) C (nonF p q) (X + 2) + 16777216 * blkF (keyF sd) C (nonF p q) (X + 3)) = word (blkF (keyF sd) C (nonF p q)) X from rfl]
  obtain ⟨z, ez⟩ : ∃ z, word (blkF (keyF sd) C (nonF p q)) X = z := ⟨_, rfl⟩
  rw [ez]
  have EZ := Lib.hid ez
  clear ez
  go_wp2_with (fail)
  go_ret
  exact ⟨by rw [EZ.out]; rfl, hBut2, HB5⟩

set_option maxHeartbeats 4000000 in
theorem Next_other (B : Nat) (sd p q bo di : Int) (c0 : Int) (hne : c0 ≠ cntF bo di) (hs : in64u sd) (hp : in32 p) (hq : in32 q) (hb : inI bo) (hd : inI di) (w : World) (hg : Has 0 0 GL w) (hB : Own B (srcF sd p q (some c0)) w) :
    Calls Tryd.prog 10 #[.pointer (some ⟨B, 0, none⟩), .int .i64 bo, .int .i64 di] w fun e w' => e = .returned (.int .u32 (atF sd p q bo di)) ∧ But B w w' ∧ Own B (srcF sd p q (some (cntF bo di))) w' := by
  have FS := Lib.hid hs; have FP := Lib.hid hp; have FQ := Lib.hid hq; have HG0 := Lib.hid hg; have HB := Lib.hid hB
  have FF := Lib.hid (find_any bo di hb hd)
  have FC := Lib.hid (in_cntF bo di)
  have FI := Lib.hid (idxN_le di)
  unfold atF
  generalize cntF bo di = C at *
  generalize idxN di = X at *
  have b0 := HB.out.at 0 _ rfl; have b1 := HB.out.at 1 _ rfl; have b2 := HB.out.at 2 _ rfl; have b3 := HB.out.at 3 _ rfl; have b4 := HB.out.at 4 _ rfl
  have Bl := HB.out.lt
  clear hs hp hq hb hd hg hB
  go_enter Tryd.func10, Tryd.ntmps10
  go_wp2_with (fail)
  go_at_call 18
  refine (FF.out _).mono ?_
  rintro e w1 ⟨rfl, hb⟩
  clear b0 b1 b2 b3 b4
  have HB1 := Lib.hid (HB.out.later hb)
  have b0 := HB1.out.at 0 _ rfl; have b1 := HB1.out.at 1 _ rfl; have b2 := HB1.out.at 2 _ rfl; have b3 := HB1.out.at 3 _ rfl
  have HG := Lib.hid (HG0.out.later hb)
  go_upto_region 6 with fail
  obtain ⟨w2, hW⟩ : ∃ w2, w2 = (w1.alloc (.cells #[.int .u64 sd, .int .u32 p, .int .u32 q, .int .u32 C] 34)) := ⟨_, rfl⟩
  have hBx : Below w1.heap.size w1 w2 := hW ▸ (Below.al (Below.refl _ _))
  have HV : Hid (Own w1.heap.size ([.int .u64 sd, .int .u32 p, .int .u32 q, .int .u32 C]) w2) := Lib.hid (hW ▸ (show Own w1.heap.size ([.int .u64 sd, .int .u32 p, .int .u32 q, .int .u32 C]) (w1.alloc (.cells #[.int .u64 sd, .int .u32 p, .int .u32 q, .int .u32 C] 34)) from Own.newAt (by simp)))
  rw [← hW]
  clear hW
  obtain ⟨V, eV⟩ : ∃ X, X = w1.heap.size := ⟨_, rfl⟩
  rw [← eV] at HV ⊢
  have Vw : w1.heap.size ≤ V := by omega
  clear eV
  have HB2 := Lib.hid (HB1.out.later hBx)
  have HG2 := Lib.hid (HG.out.later hBx)
  have nVB : V ≠ B := by have := HB1.out.lt; omega
  have nBV : B ≠ V := Ne.symm nVB
  have hB0 := Below.go hb hBx
  have hVw : w.heap.size ≤ V := by have := hb.size; omega
  clear b0 b1 b2 b3 HB1 HG hb hBx Vw
  have v0 := HV.out.at 0 _ rfl; have v1 := HV.out.at 1 _ rfl; have v2 := HV.out.at 2 _ rfl; have v3 := HV.out.at 3 _ rfl
  have b5 := HB2.out.at 5 _ rfl; have b6 := HB2.out.at 6 _ rfl; have b7 := HB2.out.at 7 _ rfl; have b8 := HB2.out.at 8 _ rfl; have b9 := HB2.out.at 73 _ (src_known _ _ _ _ _ _ _ _ _)
  have Bl2 := HB2.out.lt
  have Vl2 := HV.out.lt
  have hq : ∀ w, (Op.equalIn 10000 34 (.agg #[.int .u64 sd, .int .u32 p, .int .u32 q, .int .u32 c0]) (.agg #[.int .u64 sd, .int .u32 p, .int .u32 q, .int .u32 C])).run Tryd.prog w = .ok false w := fun w => by rw [eqSpot, decide_eq_false hne]
  go_quiet (fail)
  go_upto_region 7 with fail
  obtain ⟨w3, e3⟩ : ∃ x, x = w2.drewN nq := ⟨_, rfl⟩
  have hBd : Below w2.heap.size w2 w3 := e3 ▸ below_drewN (Below.refl _ _) _
  rw [← e3]
  have HB3 := Lib.hid (HB2.out.later hBd)
  have HV3 := Lib.hid (HV.out.later hBd)
  have HG3 := Lib.hid (HG2.out.later hBd)
  have hB3 := Below.go hB0 hBd
  clear e3 HB2 HV HG2 hBd hB0 v0 v1 v2 v3 b5 b6 b7 b8 b9 Bl2 Vl2 hq
  refine wp_region_fun 8 (by kernel_rfl) (by kernel_rfl) rfl (fun s b => ⟨#[.pointer (some ⟨B, 0, none⟩), .int .i64 bo, .int .i64 di, undef, undef, undef, .int .u32 0, .int .u32 C, .int .i64 (X : Int), .pointer (some ⟨V, 0, none⟩), .pointer (some ⟨B, 0, none⟩), .bool false, .bool false, .pointer (some ⟨B, 0, none⟩), .pointer (some ⟨B, 0, none⟩), .pointer (some ⟨B, 4, none⟩), .bool true, .bool false, .bool false, .tuple #[.int .u32 C, .int .i64 (X : Int)], .int .i64 bo, .int .i64 di, .tuple #[.int .u32 C, .int .i64 (X : Int)], .int .u32 C, .int .i64 (X : Int), .pointer (some ⟨B, 0, none⟩), .pointer (some ⟨B, 0, none⟩), .pointer (some ⟨B, 0, none⟩), .agg #[.int .u64 sd, .int .u32 p, .int .u32 q, .int .u32 0], .int .u32 C, .pointer (some ⟨V, 3, none⟩), .pointer (some ⟨B, 0, none⟩), .pointer (some ⟨B, 0, none⟩), .pointer (some ⟨B, 5, none⟩), .pointer (some ⟨B, 73, none⟩), .bool true, .bool false, .bool false, .pointer (some ⟨B, 0, none⟩), .pointer (some ⟨B, 0, none⟩), .pointer (some ⟨B, 5, none⟩), .pointer (some ⟨B, 5, none⟩), .agg #[.int .u64 sd, .int .u32 p, .int .u32 q, .int .u32 c0], .agg #[.int .u64 sd, .int .u32 p, .int .u32 q, .int .u32 C], .bool true, .bool true, s 46, s 47, s 48, s 49, s 50, s 51, s 52, undef, undef, undef, undef, undef, undef, undef], []⟩) (fun d s b w => (d 7 = false → Below w3.heap.size w3 w) ∧ (d 0 = true → s 46 = .pointer (some ⟨B, 0, none⟩)) ∧ (d 1 = true → s 47 = .agg #[.int .u64 sd, .int .u32 p, .int .u32 q, .int .u32 C]) ∧ (d 2 = true → s 48 = .agg #[.int .u64 sd, .int .u32 p, .int .u32 q, .int .u32 C]) ∧ (d 3 = true → s 49 = (.agg (nums .u8 (blkF (keyF sd) C (nonF p q)) 64).toArray)) ∧ (d 4 = true → s 50 = .agg (lastL sd p q C (blkF (keyF sd) C (nonF p q)) true).toArray) ∧ (d 5 = true → s 51 = .pointer (some ⟨B, 0, none⟩)) ∧ (d 6 = true → s 52 = .pointer (some ⟨B, 5, none⟩)) ∧ (d 7 = true → ∀ j, j < 7 → d j = true) ∧ (d 7 = true → ∃ w2, Below w3.heap.size w3 w2 ∧ w = w2.setCells B 5 (lastL sd p q C (blkF (keyF sd) C (nonF p q)) true)) ∧ (d 6 = true → d 5 = true)) rfl ?h0y1 (?sty1 : StepsF _ _ _ _ 8 _ _ [0, 1, 2, 3, 4, 5, 6, 7]) ?dny1
  case h0y1 => exact ⟨fun _ => Below.drew (Below.refl _ _), (fun h => nomatch h), (fun h => nomatch h), (fun h => nomatch h), (fun h => nomatch h), (fun h => nomatch h), (fun h => nomatch h), (fun h => nomatch h), (fun h => nomatch h), (fun h => nomatch h), (fun h => nomatch h)⟩
  case sty1 =>
    refine StepsF.cons (o := _) rfl (ws := []) (by kernel_rfl) (by decide) (fun d s b w hF hd hw K_ hK => ?_) ?_
    · have hk : d 7 = false := by cases e : d 7 with | false => rfl | true => exact absurd ((p8_ hF.out) e 0 (by decide)) (by simp [hd])
      have hB : Below w3.heap.size w3 w := (p0_ hF.out) hk
      dsimp only
      go_simp
      exact hK.out (ups s 46 (.pointer (some ⟨B, 0, none⟩))) b _ ⟨(fun _ => hB), (fun _ => rfl), (p2_ hF.out), (p3_ hF.out), (p4_ hF.out), (p5_ hF.out), (p6_ hF.out), (p7_ hF.out), (fun h => absurd ((p8_ hF.out) h 0 (by decide)) (by simp [hd])), (fun h => absurd ((p8_ hF.out) h 0 (by decide)) (by simp [hd])), (q10_ hF.out)⟩
    refine StepsF.cons (o := _) rfl (ws := []) (by kernel_rfl) (by decide) (fun d s b w hF hd hw K_ hK => ?_) ?_
    · have hk : d 7 = false := by cases e : d 7 with | false => rfl | true => exact absurd ((p8_ hF.out) e 1 (by decide)) (by simp [hd])
      have hB : Below w3.heap.size w3 w := (p0_ hF.out) hk
      dsimp only
      have oV := HV3.out.later hB
      have v0 := oV.at 0 _ rfl
      have v1 := oV.at 1 _ rfl
      have v2 := oV.at 2 _ rfl
      have v3 := oV.at 3 _ rfl
      clear oV
      go_simp
      exact hK.out (ups s 47 (.agg #[.int .u64 sd, .int .u32 p, .int .u32 q, .int .u32 C])) b _ ⟨(fun _ => hB), (p1_ hF.out), (fun _ => rfl), (p3_ hF.out), (p4_ hF.out), (p5_ hF.out), (p6_ hF.out), (p7_ hF.out), (fun h => absurd ((p8_ hF.out) h 1 (by decide)) (by simp [hd])), (fun h => absurd ((p8_ hF.out) h 1 (by decide)) (by simp [hd])), (q10_ hF.out)⟩
    refine StepsF.cons (o := _) rfl (ws := []) (by kernel_rfl) (by decide) (fun d s b w hF hd hw K_ hK => ?_) ?_
    · have hk : d 7 = false := by cases e : d 7 with | false => rfl | true => exact absurd ((p8_ hF.out) e 2 (by decide)) (by simp [hd])
      have hB : Below w3.heap.size w3 w := (p0_ hF.out) hk
      dsimp only
      have oV := HV3.out.later hB
      have v0 := oV.at 0 _ rfl
      have v1 := oV.at 1 _ rfl
      have v2 := oV.at 2 _ rfl
      have v3 := oV.at 3 _ rfl
      clear oV
      go_simp
      exact hK.out (ups s 48 (.agg #[.int .u64 sd, .int .u32 p, .int .u32 q, .int .u32 C])) b _ ⟨(fun _ => hB), (p1_ hF.out), (p2_ hF.out), (fun _ => rfl), (p4_ hF.out), (p5_ hF.out), (p6_ hF.out), (p7_ hF.out), (fun h => absurd ((p8_ hF.out) h 2 (by decide)) (by simp [hd])), (fun h => absurd ((p8_ hF.out) h 2 (by decide)) (by simp [hd])), (q10_ hF.out)⟩
    refine StepsF.cons (o := _) rfl (ws := [2]) (by kernel_rfl) (by decide) (fun d s b w hF hd hw K_ hK => ?_) ?_
    · have hk : d 7 = false := by cases e : d 7 with | false => rfl | true => exact absurd ((p8_ hF.out) e 3 (by decide)) (by simp [hd])
      have hB : Below w3.heap.size w3 w := (p0_ hF.out) hk
      have e2 : s 48 = .agg #[.int .u64 sd, .int .u32 p, .int .u32 q, .int .u32 C] := (p3_ hF.out) (hw 2 (by decide))
      dsimp only
      go_simp
      go_at_call 19
      refine (spot_any sd p q C FS.out FP.out FQ.out FC.out _ (HG3.out.later hB)).mono ?_
      rintro e w1 ⟨rfl, hb⟩
      exact hK.out (ups (ups s 48 (.agg #[.int .u64 sd, .int .u32 p, .int .u32 q, .int .u32 C])) 49 ((.agg (nums .u8 (blkF (keyF sd) C (nonF p q)) 64).toArray))) b _ ⟨(fun _ => (Below.go hB hb)), (p1_ hF.out), (p2_ hF.out), (fun _ => rfl), (fun _ => rfl), (p5_ hF.out), (p6_ hF.out), (p7_ hF.out), (fun h => absurd ((p8_ hF.out) h 3 (by decide)) (by simp [hd])), (fun h => absurd ((p8_ hF.out) h 3 (by decide)) (by simp [hd])), (q10_ hF.out)⟩
    refine StepsF.cons (o := _) rfl (ws := [1, 3]) (by kernel_rfl) (by decide) (fun d s b w hF hd hw K_ hK => ?_) ?_
    · have hk : d 7 = false := by cases e : d 7 with | false => rfl | true => exact absurd ((p8_ hF.out) e 4 (by decide)) (by simp [hd])
      have hB : Below w3.heap.size w3 w := (p0_ hF.out) hk
      have e1 : s 47 = .agg #[.int .u64 sd, .int .u32 p, .int .u32 q, .int .u32 C] := (p2_ hF.out) (hw 1 (by decide))
      have e3 : s 49 = (.agg (nums .u8 (blkF (keyF sd) C (nonF p q)) 64).toArray) := (p4_ hF.out) (hw 3 (by decide))
      refine step_built (by simp [Region.wanted]) _ _ rfl [(0, s 47), (1, s 49), (2, .bool true)] (by kernel_rfl) (lastL sd p q C (blkF (keyF sd) C (nonF p q)) true).toArray (by rw [e1, e3]; exact built_last _ _ _ _ _) ?_
      exact hK.out (ups s 50 (.agg (lastL sd p q C (blkF (keyF sd) C (nonF p q)) true).toArray)) b _ ⟨(fun _ => hB), (p1_ hF.out), (p2_ hF.out), (p3_ hF.out), (p4_ hF.out), (fun _ => rfl), (p6_ hF.out), (p7_ hF.out), (fun h => absurd ((p8_ hF.out) h 4 (by decide)) (by simp [hd])), (fun h => absurd ((p8_ hF.out) h 4 (by decide)) (by simp [hd])), (q10_ hF.out)⟩
    refine StepsF.cons (o := _) rfl (ws := [0, 0, 1, 2, 3, 4]) (by kernel_rfl) (by decide) (fun d s b w hF hd hw K_ hK => ?_) ?_
    · have hk : d 7 = false := by cases e : d 7 with | false => rfl | true => exact absurd ((p8_ hF.out) e 5 (by decide)) (by simp [hd])
      have hB : Below w3.heap.size w3 w := (p0_ hF.out) hk
      have e0 : s 46 = .pointer (some ⟨B, 0, none⟩) := (p1_ hF.out) (hw 0 (by decide))
      have e1 : s 47 = .agg #[.int .u64 sd, .int .u32 p, .int .u32 q, .int .u32 C] := (p2_ hF.out) (hw 1 (by decide))
      have e2 : s 48 = .agg #[.int .u64 sd, .int .u32 p, .int .u32 q, .int .u32 C] := (p3_ hF.out) (hw 2 (by decide))
      have e3 : s 49 = (.agg (nums .u8 (blkF (keyF sd) C (nonF p q)) 64).toArray) := (p4_ hF.out) (hw 3 (by decide))
      have e4 : s 50 = .agg (lastL sd p q C (blkF (keyF sd) C (nonF p q)) true).toArray := (p5_ hF.out) (hw 4 (by decide))
      dsimp only
      go_simp
      exact hK.out (ups (ups (ups (ups (ups (ups s 46 (.pointer (some ⟨B, 0, none⟩))) 47 (.agg #[.int .u64 sd, .int .u32 p, .int .u32 q, .int .u32 C])) 48 (.agg #[.int .u64 sd, .int .u32 p, .int .u32 q, .int .u32 C])) 49 ((.agg (nums .u8 (blkF (keyF sd) C (nonF p q)) 64).toArray))) 50 (.agg (lastL sd p q C (blkF (keyF sd) C (nonF p q)) true).toArray)) 51 (.pointer (some ⟨B, 0, none⟩))) b _ ⟨(fun _ => hB), (fun _ => rfl), (fun _ => rfl), (fun _ => rfl), (fun _ => rfl), (fun _ => rfl), (fun _ => rfl), (p7_ hF.out), (fun h => absurd ((p8_ hF.out) h 5 (by decide)) (by simp [hd])), (fun h => absurd ((p8_ hF.out) h 5 (by decide)) (by simp [hd])), (fun _ => rfl)⟩
    refine StepsF.cons (o := _) rfl (ws := [5, 0, 1, 2, 3, 4]) (by kernel_rfl) (by decide) (fun d s b w hF hd hw K_ hK => ?_) ?_
    · have hk : d 7 = false := by cases e : d 7 with | false => rfl | true => exact absurd ((p8_ hF.out) e 6 (by decide)) (by simp [hd])
      have hB : Below w3.heap.size w3 w := (p0_ hF.out) hk
      have e0 : s 46 = .pointer (some ⟨B, 0, none⟩) := (p1_ hF.out) (hw 0 (by decide))
      have e1 : s 47 = .agg #[.int .u64 sd, .int .u32 p, .int .u32 q, .int .u32 C] := (p2_ hF.out) (hw 1 (by decide))
      have e2 : s 48 = .agg #[.int .u64 sd, .int .u32 p, .int .u32 q, .int .u32 C] := (p3_ hF.out) (hw 2 (by decide))
      have e3 : s 49 = (.agg (nums .u8 (blkF (keyF sd) C (nonF p q)) 64).toArray) := (p4_ hF.out) (hw 3 (by decide))
      have e4 : s 50 = .agg (lastL sd p q C (blkF (keyF sd) C (nonF p q)) true).toArray := (p5_ hF.out) (hw 4 (by decide))
      have e5 : s 51 = .pointer (some ⟨B, 0, none⟩) := (p6_ hF.out) (hw 5 (by decide))
      dsimp only
      go_simp
      exact hK.out (ups (ups (ups (ups (ups (ups (ups s 46 (.pointer (some ⟨B, 0, none⟩))) 47 (.agg #[.int .u64 sd, .int .u32 p, .int .u32 q, .int .u32 C])) 48 (.agg #[.int .u64 sd, .int .u32 p, .int .u32 q, .int .u32 C])) 49 ((.agg (nums .u8 (blkF (keyF sd) C (nonF p q)) 64).toArray))) 50 (.agg (lastL sd p q C (blkF (keyF sd) C (nonF p q)) true).toArray)) 51 (.pointer (some ⟨B, 0, none⟩))) 52 (.pointer (some ⟨B, 5, none⟩))) b _ ⟨(fun _ => hB), (fun _ => rfl), (fun _ => rfl), (fun _ => rfl), (fun _ => rfl), (fun _ => rfl), (fun _ => rfl), (fun _ => rfl), (fun h => absurd ((p8_ hF.out) h 6 (by decide)) (by simp [hd])), (fun h => absurd ((p8_ hF.out) h 6 (by decide)) (by simp [hd])), (fun _ => hw 5 (by decide))⟩
    refine StepsF.cons (o := _) rfl (ws := [6, 4, 3, 0, 1, 2, 3, 4]) (by kernel_rfl) (by decide) (fun d s b w hF hd hw K_ hK => ?_) ?_
    · have hB : Below w3.heap.size w3 w := (p0_ hF.out) hd
      have e0 : s 46 = .pointer (some ⟨B, 0, none⟩) := (p1_ hF.out) (hw 0 (by decide))
      have e1 : s 47 = .agg #[.int .u64 sd, .int .u32 p, .int .u32 q, .int .u32 C] := (p2_ hF.out) (hw 1 (by decide))
      have e2 : s 48 = .agg #[.int .u64 sd, .int .u32 p, .int .u32 q, .int .u32 C] := (p3_ hF.out) (hw 2 (by decide))
      have e3 : s 49 = (.agg (nums .u8 (blkF (keyF sd) C (nonF p q)) 64).toArray) := (p4_ hF.out) (hw 3 (by decide))
      have e4 : s 50 = .agg (lastL sd p q C (blkF (keyF sd) C (nonF p q)) true).toArray := (p5_ hF.out) (hw 4 (by decide))
      have e6 : s 52 = .pointer (some ⟨B, 5, none⟩) := (p7_ hF.out) (hw 6 (by decide))
      dsimp only
      have oz := HB3.out.later hB
      have hst := store_last (P := Tryd.prog) sd p q C (blkF (keyF sd) C (nonF p q)) true oz
      have oX := HB3.out.later hB
      clear oX
      go_simp
      exact hK.out (ups (ups (ups (ups (ups (ups s 46 (.pointer (some ⟨B, 0, none⟩))) 47 (.agg #[.int .u64 sd, .int .u32 p, .int .u32 q, .int .u32 C])) 48 (.agg #[.int .u64 sd, .int .u32 p, .int .u32 q, .int .u32 C])) 49 ((.agg (nums .u8 (blkF (keyF sd) C (nonF p q)) 64).toArray))) 50 (.agg (lastL sd p q C (blkF (keyF sd) C (nonF p q)) true).toArray)) 52 (.pointer (some ⟨B, 5, none⟩))) b _ ⟨(fun h => nomatch h), (fun _ => rfl), (fun _ => rfl), (fun _ => rfl), (fun _ => rfl), (fun _ => rfl), (p6_ hF.out), (fun _ => rfl), (fun _ j hj => by by_cases h5 : j = 5; (subst h5; have h2 := (q10_ hF.out) (hw 6 (by decide)); simp [upd, h2]); (have hj2 := hw j (by simp; omega); simp [upd, hj2])), (fun _ => ⟨w, hB, rfl⟩), (q10_ hF.out)⟩
    exact StepsF.nil
  intro d s b y1 hF hall
  replace hF := Lib.hid hF
  obtain ⟨y1, hB, rfl⟩ := (p9_ hF.out) (hall 7 (by decide))
  try dsimp only
  have e0 : s 46 = .pointer (some ⟨B, 0, none⟩) := (p1_ hF.out) (hall 0 (by decide))
  have e1 : s 47 = .agg #[.int .u64 sd, .int .u32 p, .int .u32 q, .int .u32 C] := (p2_ hF.out) (hall 1 (by decide))
  have e2 : s 48 = .agg #[.int .u64 sd, .int .u32 p, .int .u32 q, .int .u32 C] := (p3_ hF.out) (hall 2 (by decide))
  have e3 : s 49 = (.agg (nums .u8 (blkF (keyF sd) C (nonF p q)) 64).toArray) := (p4_ hF.out) (hall 3 (by decide))
  have e4 : s 50 = .agg (lastL sd p q C (blkF (keyF sd) C (nonF p q)) true).toArray := (p5_ hF.out) (hall 4 (by decide))
  have e5 : s 51 = .pointer (some ⟨B, 0, none⟩) := (p6_ hF.out) (hall 5 (by decide))
  have e6 : s 52 = .pointer (some ⟨B, 5, none⟩) := (p7_ hF.out) (hall 6 (by decide))
  rw [e0, e1, e2, e3, e4, e5, e6]
  clear hall hF e0 e1 e2 e3 e4 e5 e6
  clear d s b
  have HB4 := Lib.hid (own_last C (HB3.out.later hB))
  have hBut : But B w (y1.setCells B 5 (lastL sd p q C (blkF (keyF sd) C (nonF p q)) true)) := (But.of (Below.go hB3 hB) Bl).trans But.store
  clear HB3 HV3 HG3 hB3 hB
  generalize (y1.setCells B 5 (lastL sd p q C (blkF (keyF sd) C (nonF p q)) true)) = wz at *
  have HBk := Lib.hid (has_blk10 HB4.out)
  have X6 := FI.out
  have x0 : (0 : Int) ≤ (X : Int) := by omega
  have x1 : (X : Int) ≤ 64 := by omega
  have x2 : X ≤ 64 := by omega
  go_wp2_with (fail)
  go_at_call 20
  refine (snumber_any B (9 + X) (64 - X) (64 - X) _ _ _ _ (in_blkF _ _ _ _) (in_blkF _ _ _ _) (in_blkF _ _ _ _) (in_blkF _ _ _ _) (by omega) _ (has_four HBk.out (show X + 4 ≤ 64 by omega))).mono ?_
  rintro e w5 ⟨rfl, hb5⟩
  have hBut2 := hBut.trans (But.of hb5 HB4.out.lt)
  have HB5 := HB4.out.later hb5
  clear HBk X6 x0 x1 x2 hBut HB4 hb5
  rw [show (blkF (keyF sd) C (nonF p q) X + 256 * blkF (keyF sd) C (nonF p q) (X + 1) + 65536 * blkF (keyF sd) C (nonF p q) (X + 2) + 16777216 * blkF (keyF sd) C (nonF p q) (X + 3)) = word (blkF (keyF sd) C (nonF p q)) X from rfl]
  obtain ⟨z, ez⟩ : ∃ z, word (blkF (keyF sd) C (nonF p q)) X = z := ⟨_, rfl⟩
  rw [ez]
  have EZ := Lib.hid ez
  clear ez
  go_wp2_with (fail)
  go_ret
  exact ⟨by rw [EZ.out]; rfl, hBut2, HB5⟩

theorem Next_any (B : Nat) (sd p q bo di : Int) (oc : Option Int) (hs : in64u sd) (hp : in32 p) (hq : in32 q) (hb : inI bo) (hd : inI di) (w : World) (hg : Has 0 0 GL w) (hB : Own B (srcF sd p q oc) w) :
    Calls Tryd.prog 10 #[.pointer (some ⟨B, 0, none⟩), .int .i64 bo, .int .i64 di] w fun e w' => e = .returned (.int .u32 (atF sd p q bo di)) ∧ But B w w' ∧ Own B (srcF sd p q (some (cntF bo di))) w' := by
  cases oc with
  | none => exact Next_fresh B sd p q bo di hs hp hq hb hd w hg hB
  | some c0 =>
    by_cases h : c0 = cntF bo di
    · subst h
      exact Next_same B sd p q bo di hs hp hq hb hd w hg hB
    · exact Next_other B sd p q bo di c0 h hs hp hq hb hd w hg hB
theorem Next_nil (b d : Int) (w : World) : Calls Tryd.prog 10 #[.pointer none, .int .i64 b, .int .i64 d] w fun e w' => e = .returned (.int .u32 0) ∧ Below w.heap.size w w' := by
  go_enter Tryd.func10, Tryd.ntmps10
  go_wp2_with (fail)
  go_ret
  exact ⟨rfl, Below.refl _ _⟩
theorem Next_unmade (B : Nat) (b d : Int) (w : World) (hB : w.cell? ⟨B, 4, none⟩ = some (.bool false)) : Calls Tryd.prog 10 #[.pointer (some ⟨B, 0, none⟩), .int .i64 b, .int .i64 d] w fun e w' => e = .returned (.int .u32 0) ∧ Below w.heap.size w w' := by
  go_enter Tryd.func10, Tryd.ntmps10
  go_wp2_with (fail)
  go_ret
  exact ⟨rfl, Below.refl _ _⟩
end Go.Proofs.YtbepgbpmgiihbaaDoor
