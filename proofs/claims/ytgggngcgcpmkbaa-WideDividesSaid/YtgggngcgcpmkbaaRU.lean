/- umbraref01.Add: the sum of the document. -/
import Derived.Test.YtgggngcgcpmkbaaRT
import Derived.LoopTactic
namespace Go.Proofs.Ytgggngcgcpmkbaa
set_option linter.unusedVariables false
set_option maxRecDepth 2000
set_option linter.unusedSimpArgs false
open Go.RowKit
attribute [local go_sem] setCell_twice setCell_pair

theorem ToWide_v (v : Value) (y : Int) (w : World) (ha : NumR w v y) (y1 : (y.natAbs : Int) < SMALL) :
    Calls Try.prog 31 #[v] w fun e w' => e = .returned (.tuple #[if inW y then (.agg #[.int .i64 (hi (y)), .int .u64 (lo (y))]) else .agg #[.int .i64 0, .int .u64 0], .bool (inW y)]) ∧ Below w.heap.size w w' := by
  obtain ⟨b, p, n, c, rfl⟩ := ha.form
  exact ToWide_any b p n c y w ha y1

set_option maxHeartbeats 8000000 in
theorem RAdd_walk (blk off n cap : Nat) (zs : List Int) (R0 : Option Int) (hn : zs.length = n) (hN : n ≤ 4611686018427387904) (w : World) (hb : blk < w.heap.size)
    (bd : ∀ k, k < n → inW (zs.getD k 0) = true)
    (cells : ∀ k, k < n → w.cell? ⟨blk, off + k * 2, none⟩ = some (.int .i64 (hi (zs.getD k 0))) ∧ w.cell? ⟨blk, off + k * 2 + 1, none⟩ = some (.int .u64 (lo (zs.getD k 0))))
    (hR : addR 0 zs = R0) :
    Calls Try.prog 39 #[.slice (some ⟨blk, off, none⟩) n cap] w fun e w' => e = .returned (addV R0) ∧ Below w.heap.size w w' := by
  have BD := Lib.hid bd; clear bd
  have CL := Lib.hid cells; clear cells
  have HRR := Lib.hid hR; clear hR
  have HN := Lib.hid hn; clear hn
  have wz0 : inW 0 = true := by decide
  go_enter Try.func39, Try.ntmps39
  go_wp2_with (fail)
  obtain ⟨W0, hW⟩ : ∃ W0, W0 = ((w.alloc (.cells #[.int .i64 0, .int .u64 0] 50)).alloc (.cells #[.int .i64 0, .int .u64 0] 50)) := ⟨_, rfl⟩
  have hB0 : Below w.heap.size w W0 := hW ▸ (Below.al (Below.al (Below.refl _ _)))
  have HR : Hid (Own w.heap.size [.int .i64 0, .int .u64 0] W0) := Lib.hid (hW ▸ (Own.newAt (by simp)).alloc)
  have HS : Hid (Own (w.heap.size + 1) [.int .i64 0, .int .u64 0] W0) := Lib.hid (hW ▸ (Own.newAt (by simp)))
  rw [← hW]
  clear hW
  obtain ⟨S, eS⟩ : ∃ X, X = (w.heap.size + 1) := ⟨_, rfl⟩
  rw [← eS] at HS ⊢
  have Sw : w.heap.size ≤ S := by omega
  obtain ⟨R, eR⟩ : ∃ X, X = w.heap.size := ⟨_, rfl⟩
  rw [← eR] at HR ⊢
  have Rw : w.heap.size ≤ R := by omega
  have nRS : R ≠ S := by omega
  have nSR : S ≠ R := by omega
  clear eR eS
  go_loopw [5] (fun i wr => ∃ (k : Nat) (y : Int), k ≤ n ∧ i = .int .i64 k ∧ Hid (addR y (zs.drop k) = R0) ∧ Hid (inW y = true) ∧ Hid (Below w.heap.size w wr) ∧ Hid (Own S [.int .i64 (hi y), .int .u64 (lo y)] wr) ∧ Hid (Own R [.int .i64 0, .int .u64 0] wr)) (fun i _ => (n - (intOf i).toNat))
  case atStart => exact ⟨0, 0, by omega, rfl, HRR, Lib.hid wz0, Lib.hid hB0, HS, HR⟩
  case round =>
    obtain ⟨k, y, hk, rfl, hs, hw, HB, HS, HR⟩ := hrel
    clear hB0
    by_cases hlt : k < n
    · have hcell := CL.out k hlt
      have wz := BD.out k hlt
      have st := addR_step y zs k (by rw [HN.out]; exact hlt)
      rw [hs.out] at st
      generalize zs.getD k 0 = z at *
      have wy' := (inW_iff y).1 hw.out
      have wz' := (inW_iff z).1 wz
      have HX : Hid (Has blk (off + k * 2) [.int .i64 (hi z), .int .u64 (lo z)] wr) := Lib.hid ⟨by have := HB.out.size; omega, fun j v hj => by
        match j, hj with
        | 0, hj => cases hj; exact (HB.out.cell (p := ⟨blk, off + k * 2, none⟩) hb).trans hcell.1
        | 1, hj => cases hj; exact (HB.out.cell (p := ⟨blk, off + k * 2 + 1, none⟩) hb).trans hcell.2⟩
      have WY := Lib.hid (fun w => wide_any y wy'.1 wy'.2 w)
      have WZ := Lib.hid (fun w => wide_any z wz'.1 wz'.2 w)
      have SU := Lib.hid (fun v v' w hv hv' => refSum_any v v' y z w hv hv' (by unfold BIG; omega) (by unfold BIG; omega))
      obtain ⟨th, eth⟩ : ∃ t, t = hi (if inW (y + z) then y + z else 0) := ⟨_, rfl⟩
      obtain ⟨tl, etl⟩ : ∃ t, t = lo (if inW (y + z) then y + z else 0) := ⟨_, rfl⟩
      have TW : Hid (∀ v w, NumR w v (y + z) → Calls Try.prog 31 #[v] w fun e w' => e = .returned (.tuple #[.agg #[.int .i64 th, .int .u64 tl], .bool (inW (y + z))]) ∧ Below w.heap.size w w') := Lib.hid fun v w hv => by
        have := ToWide_v v (y + z) w hv (by unfold SMALL; omega)
        rw [eth, etl]
        cases e : inW (y + z) with
        | true => rw [e] at this; exact this
        | false => rw [e] at this; exact this
      have ST := Lib.hid st; have ETH := Lib.hid eth; have ETL := Lib.hid etl
      obtain ⟨t, et⟩ : ∃ t, t = inW (y + z) := ⟨_, rfl⟩
      rw [← et] at TW
      have ET := Lib.hid et
      clear hcell wz wy' wz' st eth etl et hw hs
      go_wp2_with (fail)
      refine wp_region_fun 15 (by kernel_rfl) (by kernel_rfl) rfl (fun s b => ⟨#[.slice (some ⟨blk, off, none⟩) n cap, undef, .pointer (some ⟨R, 0, none⟩), u3, .pointer (some ⟨S, 0, none⟩), .int .i64 k, s 6, s 7, (.agg #[.int .i64 0, .int .u64 0]), .int .i64 k, .slice (some ⟨blk, off, none⟩) n cap, .int .i64 n, .bool true, u13, u14, s 15, s 16, s 17, s 18, s 19, s 20, s 21, s 22, s 23, s 24, s 25, s 26, u27, u28, u29, u30, undef], []⟩) (fun d s b w => (Below wr.heap.size wr w) ∧ (d 0 = true → s 16 = (.agg #[.int .i64 (hi y), .int .u64 (lo y)])) ∧ (d 1 = true → d 13 = false → NumR w (s 17) y) ∧ (d 2 = true → s 18 = .slice (some ⟨blk, off, none⟩) n cap) ∧ (d 3 = true → s 19 = .int .i64 k) ∧ (d 4 = true → s 20 = .pointer (some ⟨blk, off + k * 2, none⟩)) ∧ (d 5 = true → s 21 = (.agg #[.int .i64 (hi z), .int .u64 (lo z)])) ∧ (d 6 = true → d 13 = false → NumR w (s 22) z) ∧ (d 7 = true → d 13 = false → NumR w (s 23) (y + z)) ∧ (d 8 = true → s 24 = .tuple #[(.agg #[.int .i64 th, .int .u64 tl]), .bool t]) ∧ (d 9 = true → s 15 = .tuple #[(.agg #[.int .i64 th, .int .u64 tl]), .bool t]) ∧ (d 10 = true → s 25 = (.agg #[.int .i64 th, .int .u64 tl])) ∧ (d 11 = true → s 26 = .bool t) ∧ (d 12 = true → s 6 = .pointer (some ⟨(b 12), 0, none⟩) ∧ wr.heap.size ≤ b 12) ∧ (d 12 = true → d 13 = false → Own (b 12) [.int .i64 0, .int .u64 0] w) ∧ (d 13 = true → Own (b 12) [.int .i64 th, .int .u64 tl] w) ∧ (d 13 = true → d 12 = true) ∧ (d 14 = true → s 7 = .bool t) ∧ (d 13 = true → d 7 = true) ∧ (d 13 = true → d 8 = true)) rfl ?h0w1 (?stw1 : StepsF _ _ _ _ 15 _ _ [0, 1, 2, 3, 4, 5, 6, 7, 8, 9, 10, 11, 12, 13, 14]) ?dnw1
      case h0w1 => exact ⟨Below.drew (Below.refl _ _), (fun h => nomatch h), (fun h => nomatch h), (fun h => nomatch h), (fun h => nomatch h), (fun h => nomatch h), (fun h => nomatch h), (fun h => nomatch h), (fun h => nomatch h), (fun h => nomatch h), (fun h => nomatch h), (fun h => nomatch h), (fun h => nomatch h), (fun h => nomatch h), (fun h => nomatch h), (fun h => nomatch h), (fun h => nomatch h), (fun h => nomatch h), (fun h => nomatch h), (fun h => nomatch h)⟩
      case stw1 =>
        refine StepsF.cons (o := _) rfl (ws := []) (by kernel_rfl) (by decide) (fun d s b w hF hd hw K hK => ?_) ?_
        · have hB : Below wr.heap.size wr w := (p0_ hF.out)
          dsimp only
          have oxs := HS.out.later hB
          have xs0 := oxs.at 0 _ rfl
          have xs1 := oxs.at 1 _ rfl
          clear oxs
          have oxx := HX.out.later hB
          have xx0 := oxx.at 0 _ rfl
          have xx1 := oxx.at 1 _ rfl
          clear oxx
          go_simp
          exact hK.out (ups s 16 ((.agg #[.int .i64 (hi y), .int .u64 (lo y)]))) b _ ⟨hB, (fun _ => rfl), (p2_ hF.out), (p3_ hF.out), (p4_ hF.out), (p5_ hF.out), (p6_ hF.out), (p7_ hF.out), (p8_ hF.out), (p9_ hF.out), (p10_ hF.out), (p11_ hF.out), (p12_ hF.out), (p13_ hF.out), (p14_ hF.out), (p15_ hF.out), (p16_ hF.out), (p17_ hF.out), (p18_ hF.out), (q19_ hF.out)⟩
        refine StepsF.cons (o := _) rfl (ws := [0]) (by kernel_rfl) (by decide) (fun d s b w hF hd hw K hK => ?_) ?_
        · have hB : Below wr.heap.size wr w := (p0_ hF.out)
          have e0 : s 16 = (.agg #[.int .i64 (hi y), .int .u64 (lo y)]) := (p1_ hF.out) (hw 0 (by decide))
          dsimp only
          go_simp
          go_at_call 35
          refine (WY.out _).mono ?_
          rintro e w1 ⟨v, rfl, hv, hb⟩
          exact hK.out (ups (ups s 16 ((.agg #[.int .i64 (hi y), .int .u64 (lo y)]))) 17 (v)) b _ ⟨(Below.go hB hb), (fun _ => rfl), (fun _ _ => hv), (p3_ hF.out), (p4_ hF.out), (p5_ hF.out), (p6_ hF.out), (fun h0 h1 => ((p7_ hF.out) h0 h1).later hb (Nat.le_refl _)), (fun h0 h1 => ((p8_ hF.out) h0 h1).later hb (Nat.le_refl _)), (p9_ hF.out), (p10_ hF.out), (p11_ hF.out), (p12_ hF.out), (p13_ hF.out), (fun h0 h1 => ((p14_ hF.out) h0 h1).later hb), (fun h0 => ((p15_ hF.out) h0).later hb), (p16_ hF.out), (p17_ hF.out), (p18_ hF.out), (q19_ hF.out)⟩
        refine StepsF.cons (o := _) rfl (ws := []) (by kernel_rfl) (by decide) (fun d s b w hF hd hw K hK => ?_) ?_
        · have hB : Below wr.heap.size wr w := (p0_ hF.out)
          dsimp only
          go_simp
          exact hK.out (ups s 18 (.slice (some ⟨blk, off, none⟩) n cap)) b _ ⟨hB, (p1_ hF.out), (p2_ hF.out), (fun _ => rfl), (p4_ hF.out), (p5_ hF.out), (p6_ hF.out), (p7_ hF.out), (p8_ hF.out), (p9_ hF.out), (p10_ hF.out), (p11_ hF.out), (p12_ hF.out), (p13_ hF.out), (p14_ hF.out), (p15_ hF.out), (p16_ hF.out), (p17_ hF.out), (p18_ hF.out), (q19_ hF.out)⟩
        refine StepsF.cons (o := _) rfl (ws := []) (by kernel_rfl) (by decide) (fun d s b w hF hd hw K hK => ?_) ?_
        · have hB : Below wr.heap.size wr w := (p0_ hF.out)
          dsimp only
          go_simp
          exact hK.out (ups s 19 (.int .i64 k)) b _ ⟨hB, (p1_ hF.out), (p2_ hF.out), (p3_ hF.out), (fun _ => rfl), (p5_ hF.out), (p6_ hF.out), (p7_ hF.out), (p8_ hF.out), (p9_ hF.out), (p10_ hF.out), (p11_ hF.out), (p12_ hF.out), (p13_ hF.out), (p14_ hF.out), (p15_ hF.out), (p16_ hF.out), (p17_ hF.out), (p18_ hF.out), (q19_ hF.out)⟩
        refine StepsF.cons (o := _) rfl (ws := [2, 3]) (by kernel_rfl) (by decide) (fun d s b w hF hd hw K hK => ?_) ?_
        · have hB : Below wr.heap.size wr w := (p0_ hF.out)
          have e2 : s 18 = .slice (some ⟨blk, off, none⟩) n cap := (p3_ hF.out) (hw 2 (by decide))
          have e3 : s 19 = .int .i64 k := (p4_ hF.out) (hw 3 (by decide))
          dsimp only
          go_simp
          exact hK.out (ups (ups (ups s 18 (.slice (some ⟨blk, off, none⟩) n cap)) 19 (.int .i64 k)) 20 (.pointer (some ⟨blk, off + k * 2, none⟩))) b _ ⟨hB, (p1_ hF.out), (p2_ hF.out), (fun _ => rfl), (fun _ => rfl), (fun _ => rfl), (p6_ hF.out), (p7_ hF.out), (p8_ hF.out), (p9_ hF.out), (p10_ hF.out), (p11_ hF.out), (p12_ hF.out), (p13_ hF.out), (p14_ hF.out), (p15_ hF.out), (p16_ hF.out), (p17_ hF.out), (p18_ hF.out), (q19_ hF.out)⟩
        refine StepsF.cons (o := _) rfl (ws := [4]) (by kernel_rfl) (by decide) (fun d s b w hF hd hw K hK => ?_) ?_
        · have hB : Below wr.heap.size wr w := (p0_ hF.out)
          have e4 : s 20 = .pointer (some ⟨blk, off + k * 2, none⟩) := (p5_ hF.out) (hw 4 (by decide))
          dsimp only
          have oxs := HS.out.later hB
          have xs0 := oxs.at 0 _ rfl
          have xs1 := oxs.at 1 _ rfl
          clear oxs
          have oxx := HX.out.later hB
          have xx0 := oxx.at 0 _ rfl
          have xx1 := oxx.at 1 _ rfl
          clear oxx
          have xy0 : w.cell? ⟨blk, off + k * 2, none⟩ = some (.int .i64 (hi z)) := xx0
          clear xx0
          go_simp
          exact hK.out (ups (ups s 20 (.pointer (some ⟨blk, off + k * 2, none⟩))) 21 ((.agg #[.int .i64 (hi z), .int .u64 (lo z)]))) b _ ⟨hB, (p1_ hF.out), (p2_ hF.out), (p3_ hF.out), (p4_ hF.out), (fun _ => rfl), (fun _ => rfl), (p7_ hF.out), (p8_ hF.out), (p9_ hF.out), (p10_ hF.out), (p11_ hF.out), (p12_ hF.out), (p13_ hF.out), (p14_ hF.out), (p15_ hF.out), (p16_ hF.out), (p17_ hF.out), (p18_ hF.out), (q19_ hF.out)⟩
        refine StepsF.cons (o := _) rfl (ws := [5, 1]) (by kernel_rfl) (by decide) (fun d s b w hF hd hw K hK => ?_) ?_
        · have hB : Below wr.heap.size wr w := (p0_ hF.out)
          have e5 : s 21 = (.agg #[.int .i64 (hi z), .int .u64 (lo z)]) := (p6_ hF.out) (hw 5 (by decide))
          dsimp only
          go_simp
          go_at_call 35
          refine (WZ.out _).mono ?_
          rintro e w1 ⟨v, rfl, hv, hb⟩
          exact hK.out (ups (ups s 21 ((.agg #[.int .i64 (hi z), .int .u64 (lo z)]))) 22 (v)) b _ ⟨(Below.go hB hb), (p1_ hF.out), (fun h0 h1 => ((p2_ hF.out) h0 h1).later hb (Nat.le_refl _)), (p3_ hF.out), (p4_ hF.out), (p5_ hF.out), (fun _ => rfl), (fun _ _ => hv), (fun h0 h1 => ((p8_ hF.out) h0 h1).later hb (Nat.le_refl _)), (p9_ hF.out), (p10_ hF.out), (p11_ hF.out), (p12_ hF.out), (p13_ hF.out), (fun h0 h1 => ((p14_ hF.out) h0 h1).later hb), (fun h0 => ((p15_ hF.out) h0).later hb), (p16_ hF.out), (p17_ hF.out), (p18_ hF.out), (q19_ hF.out)⟩
        refine StepsF.cons (o := _) rfl (ws := [1, 6, 6]) (by kernel_rfl) (by decide) (fun d s b w hF hd hw K hK => ?_) ?_
        · have hB : Below wr.heap.size wr w := (p0_ hF.out)
          dsimp only
          go_simp
          go_at_call 79
          refine (SU.out _ _ _ ((p2_ hF.out) (hw 1 (by decide)) (by cases e : d 13 with | false => rfl | true => exact absurd ((p18_ hF.out) e) (by simp [hd]))) ((p7_ hF.out) (hw 6 (by decide)) (by cases e : d 13 with | false => rfl | true => exact absurd ((p18_ hF.out) e) (by simp [hd])))).mono ?_
          rintro e w1 ⟨v, rfl, hv, hb⟩
          exact hK.out (ups s 23 (v)) b _ ⟨(Below.go hB hb), (p1_ hF.out), (fun h0 h1 => ((p2_ hF.out) h0 h1).later hb (Nat.le_refl _)), (p3_ hF.out), (p4_ hF.out), (p5_ hF.out), (p6_ hF.out), (fun h0 h1 => ((p7_ hF.out) h0 h1).later hb (Nat.le_refl _)), (fun _ _ => hv), (p9_ hF.out), (p10_ hF.out), (p11_ hF.out), (p12_ hF.out), (p13_ hF.out), (fun h0 h1 => ((p14_ hF.out) h0 h1).later hb), (fun h0 => ((p15_ hF.out) h0).later hb), (p16_ hF.out), (p17_ hF.out), (fun _ => rfl), (q19_ hF.out)⟩
        refine StepsF.cons (o := _) rfl (ws := [7, 7]) (by kernel_rfl) (by decide) (fun d s b w hF hd hw K hK => ?_) ?_
        · have hB : Below wr.heap.size wr w := (p0_ hF.out)
          dsimp only
          go_simp
          go_at_call 31
          refine (TW.out _ _ ((p8_ hF.out) (hw 7 (by decide)) (by cases e : d 13 with | false => rfl | true => exact absurd ((q19_ hF.out) e) (by simp [hd])))).mono ?_
          rintro e w1 ⟨rfl, hb⟩
          exact hK.out (ups s 24 (.tuple #[(.agg #[.int .i64 th, .int .u64 tl]), .bool t])) b _ ⟨(Below.go hB hb), (p1_ hF.out), (fun h0 h1 => ((p2_ hF.out) h0 h1).later hb (Nat.le_refl _)), (p3_ hF.out), (p4_ hF.out), (p5_ hF.out), (p6_ hF.out), (fun h0 h1 => ((p7_ hF.out) h0 h1).later hb (Nat.le_refl _)), (fun h0 h1 => ((p8_ hF.out) h0 h1).later hb (Nat.le_refl _)), (fun _ => rfl), (p10_ hF.out), (p11_ hF.out), (p12_ hF.out), (p13_ hF.out), (fun h0 h1 => ((p14_ hF.out) h0 h1).later hb), (fun h0 => ((p15_ hF.out) h0).later hb), (p16_ hF.out), (p17_ hF.out), (p18_ hF.out), (fun _ => rfl)⟩
        refine StepsF.cons (o := _) rfl (ws := [8]) (by kernel_rfl) (by decide) (fun d s b w hF hd hw K hK => ?_) ?_
        · have hB : Below wr.heap.size wr w := (p0_ hF.out)
          have e8 : s 24 = .tuple #[(.agg #[.int .i64 th, .int .u64 tl]), .bool t] := (p9_ hF.out) (hw 8 (by decide))
          dsimp only
          go_simp
          exact hK.out (ups (ups s 24 (.tuple #[(.agg #[.int .i64 th, .int .u64 tl]), .bool t])) 15 (.tuple #[(.agg #[.int .i64 th, .int .u64 tl]), .bool t])) b _ ⟨hB, (p1_ hF.out), (p2_ hF.out), (p3_ hF.out), (p4_ hF.out), (p5_ hF.out), (p6_ hF.out), (p7_ hF.out), (p8_ hF.out), (fun _ => rfl), (fun _ => rfl), (p11_ hF.out), (p12_ hF.out), (p13_ hF.out), (p14_ hF.out), (p15_ hF.out), (p16_ hF.out), (p17_ hF.out), (p18_ hF.out), (q19_ hF.out)⟩
        refine StepsF.cons (o := _) rfl (ws := [9]) (by kernel_rfl) (by decide) (fun d s b w hF hd hw K hK => ?_) ?_
        · have hB : Below wr.heap.size wr w := (p0_ hF.out)
          have e9 : s 15 = .tuple #[(.agg #[.int .i64 th, .int .u64 tl]), .bool t] := (p10_ hF.out) (hw 9 (by decide))
          dsimp only
          go_simp
          exact hK.out (ups (ups s 15 (.tuple #[(.agg #[.int .i64 th, .int .u64 tl]), .bool t])) 25 ((.agg #[.int .i64 th, .int .u64 tl]))) b _ ⟨hB, (p1_ hF.out), (p2_ hF.out), (p3_ hF.out), (p4_ hF.out), (p5_ hF.out), (p6_ hF.out), (p7_ hF.out), (p8_ hF.out), (p9_ hF.out), (fun _ => rfl), (fun _ => rfl), (p12_ hF.out), (p13_ hF.out), (p14_ hF.out), (p15_ hF.out), (p16_ hF.out), (p17_ hF.out), (p18_ hF.out), (q19_ hF.out)⟩
        refine StepsF.cons (o := _) rfl (ws := [9]) (by kernel_rfl) (by decide) (fun d s b w hF hd hw K hK => ?_) ?_
        · have hB : Below wr.heap.size wr w := (p0_ hF.out)
          have e9 : s 15 = .tuple #[(.agg #[.int .i64 th, .int .u64 tl]), .bool t] := (p10_ hF.out) (hw 9 (by decide))
          dsimp only
          go_simp
          exact hK.out (ups (ups s 15 (.tuple #[(.agg #[.int .i64 th, .int .u64 tl]), .bool t])) 26 (.bool t)) b _ ⟨hB, (p1_ hF.out), (p2_ hF.out), (p3_ hF.out), (p4_ hF.out), (p5_ hF.out), (p6_ hF.out), (p7_ hF.out), (p8_ hF.out), (p9_ hF.out), (fun _ => rfl), (p11_ hF.out), (fun _ => rfl), (p13_ hF.out), (p14_ hF.out), (p15_ hF.out), (p16_ hF.out), (p17_ hF.out), (p18_ hF.out), (q19_ hF.out)⟩
        refine StepsF.cons (o := _) rfl (ws := []) (by kernel_rfl) (by decide) (fun d s b w hF hd hw K hK => ?_) ?_
        · have hB : Below wr.heap.size wr w := (p0_ hF.out)
          dsimp only
          go_simp
          exact hK.out (ups s 6 (.pointer (some ⟨w.heap.size, 0, none⟩))) (ups b 12 w.heap.size) _ ⟨(hB.alloc hB.size _), (p1_ hF.out), (fun h0 h1 => ((p2_ hF.out) h0 h1).later (Below.al (Below.refl _ _)) (Nat.le_refl _)), (p3_ hF.out), (p4_ hF.out), (p5_ hF.out), (p6_ hF.out), (fun h0 h1 => ((p7_ hF.out) h0 h1).later (Below.al (Below.refl _ _)) (Nat.le_refl _)), (fun h0 h1 => ((p8_ hF.out) h0 h1).later (Below.al (Below.refl _ _)) (Nat.le_refl _)), (p9_ hF.out), (p10_ hF.out), (p11_ hF.out), (p12_ hF.out), (fun _ => ⟨rfl, hB.size⟩), (fun _ _ => Own.newAt rfl), (fun h => absurd ((p16_ hF.out) h) (by simp [hd])), (fun _ => rfl), (p17_ hF.out), (p18_ hF.out), (q19_ hF.out)⟩
        refine StepsF.cons (o := _) rfl (ws := [12, 10, 8, 0, 1, 2, 3, 4, 5, 6, 7, 8, 9, 10, 12]) (by kernel_rfl) (by decide) (fun d s b w hF hd hw K hK => ?_) ?_
        · have hB : Below wr.heap.size wr w := (p0_ hF.out)
          have e0 : s 16 = (.agg #[.int .i64 (hi y), .int .u64 (lo y)]) := (p1_ hF.out) (hw 0 (by decide))
          have e2 : s 18 = .slice (some ⟨blk, off, none⟩) n cap := (p3_ hF.out) (hw 2 (by decide))
          have e3 : s 19 = .int .i64 k := (p4_ hF.out) (hw 3 (by decide))
          have e4 : s 20 = .pointer (some ⟨blk, off + k * 2, none⟩) := (p5_ hF.out) (hw 4 (by decide))
          have e5 : s 21 = (.agg #[.int .i64 (hi z), .int .u64 (lo z)]) := (p6_ hF.out) (hw 5 (by decide))
          have e8 : s 24 = .tuple #[(.agg #[.int .i64 th, .int .u64 tl]), .bool t] := (p9_ hF.out) (hw 8 (by decide))
          have e9 : s 15 = .tuple #[(.agg #[.int .i64 th, .int .u64 tl]), .bool t] := (p10_ hF.out) (hw 9 (by decide))
          have e10 : s 25 = (.agg #[.int .i64 th, .int .u64 tl]) := (p11_ hF.out) (hw 10 (by decide))
          have e12 : s 6 = .pointer (some ⟨(b 12), 0, none⟩) := ((p13_ hF.out) (hw 12 (by decide))).1
          have le12 : wr.heap.size ≤ b 12 := ((p13_ hF.out) (hw 12 (by decide))).2
          dsimp only
          have o12 := (p14_ hF.out) (hw 12 (by decide)) hd
          have fr0 := o12.ok 0 (by simp)
          have fr1 := o12.ok 1 (by simp)
          have ce0 := o12.at 0 _ rfl
          have ce1 := o12.at 1 _ rfl
          go_simp
          exact hK.out (ups (ups (ups (ups (ups (ups (ups (ups (ups s 16 ((.agg #[.int .i64 (hi y), .int .u64 (lo y)]))) 18 (.slice (some ⟨blk, off, none⟩) n cap)) 19 (.int .i64 k)) 20 (.pointer (some ⟨blk, off + k * 2, none⟩))) 21 ((.agg #[.int .i64 (hi z), .int .u64 (lo z)]))) 24 (.tuple #[(.agg #[.int .i64 th, .int .u64 tl]), .bool t])) 15 (.tuple #[(.agg #[.int .i64 th, .int .u64 tl]), .bool t])) 25 ((.agg #[.int .i64 th, .int .u64 tl]))) 6 (.pointer (some ⟨(b 12), 0, none⟩))) b _ ⟨(Below.setCells hB le12 [.int .i64 th, .int .u64 tl] 0), (fun _ => rfl), (fun _ h => nomatch h), (fun _ => rfl), (fun _ => rfl), (fun _ => rfl), (fun _ => rfl), (fun _ h => nomatch h), (fun _ h => nomatch h), (fun _ => rfl), (fun _ => rfl), (fun _ => rfl), (p12_ hF.out), (fun _ => ⟨rfl, le12⟩), (fun _ h => nomatch h), (fun _ => Own.store (vs := [.int .i64 th, .int .u64 tl]) o12 rfl), (fun _ => hw 12 (by decide)), (p17_ hF.out), (fun _ => hw 7 (by decide)), (fun _ => hw 8 (by decide))⟩
        refine StepsF.cons (o := _) rfl (ws := [11, 13, 0, 1, 2, 3, 4, 5, 6, 7, 8, 9, 10, 11, 12, 13]) (by kernel_rfl) (by decide) (fun d s b w hF hd hw K hK => ?_) ?_
        · have hB : Below wr.heap.size wr w := (p0_ hF.out)
          have e0 : s 16 = (.agg #[.int .i64 (hi y), .int .u64 (lo y)]) := (p1_ hF.out) (hw 0 (by decide))
          have e2 : s 18 = .slice (some ⟨blk, off, none⟩) n cap := (p3_ hF.out) (hw 2 (by decide))
          have e3 : s 19 = .int .i64 k := (p4_ hF.out) (hw 3 (by decide))
          have e4 : s 20 = .pointer (some ⟨blk, off + k * 2, none⟩) := (p5_ hF.out) (hw 4 (by decide))
          have e5 : s 21 = (.agg #[.int .i64 (hi z), .int .u64 (lo z)]) := (p6_ hF.out) (hw 5 (by decide))
          have e8 : s 24 = .tuple #[(.agg #[.int .i64 th, .int .u64 tl]), .bool t] := (p9_ hF.out) (hw 8 (by decide))
          have e9 : s 15 = .tuple #[(.agg #[.int .i64 th, .int .u64 tl]), .bool t] := (p10_ hF.out) (hw 9 (by decide))
          have e10 : s 25 = (.agg #[.int .i64 th, .int .u64 tl]) := (p11_ hF.out) (hw 10 (by decide))
          have e11 : s 26 = .bool t := (p12_ hF.out) (hw 11 (by decide))
          have e12 : s 6 = .pointer (some ⟨(b 12), 0, none⟩) := ((p13_ hF.out) (hw 12 (by decide))).1
          have le12 : wr.heap.size ≤ b 12 := ((p13_ hF.out) (hw 12 (by decide))).2
          dsimp only
          go_simp
          exact hK.out (ups (ups (ups (ups (ups (ups (ups (ups (ups (ups (ups s 16 ((.agg #[.int .i64 (hi y), .int .u64 (lo y)]))) 18 (.slice (some ⟨blk, off, none⟩) n cap)) 19 (.int .i64 k)) 20 (.pointer (some ⟨blk, off + k * 2, none⟩))) 21 ((.agg #[.int .i64 (hi z), .int .u64 (lo z)]))) 24 (.tuple #[(.agg #[.int .i64 th, .int .u64 tl]), .bool t])) 15 (.tuple #[(.agg #[.int .i64 th, .int .u64 tl]), .bool t])) 25 ((.agg #[.int .i64 th, .int .u64 tl]))) 26 (.bool t)) 6 (.pointer (some ⟨(b 12), 0, none⟩))) 7 (.bool t)) b _ ⟨hB, (fun _ => rfl), (p2_ hF.out), (fun _ => rfl), (fun _ => rfl), (fun _ => rfl), (fun _ => rfl), (p7_ hF.out), (p8_ hF.out), (fun _ => rfl), (fun _ => rfl), (fun _ => rfl), (fun _ => rfl), (fun _ => ⟨rfl, le12⟩), (p14_ hF.out), (p15_ hF.out), (p16_ hF.out), (fun _ => rfl), (p18_ hF.out), (q19_ hF.out)⟩
        exact StepsF.nil
      intro d s b w1 hF hall
      replace hF := Lib.hid hF
      have hB : Below wr.heap.size wr w1 := (p0_ hF.out)
      try dsimp only
      have e0 : s 16 = (.agg #[.int .i64 (hi y), .int .u64 (lo y)]) := (p1_ hF.out) (hall 0 (by decide))
      have e2 : s 18 = .slice (some ⟨blk, off, none⟩) n cap := (p3_ hF.out) (hall 2 (by decide))
      have e3 : s 19 = .int .i64 k := (p4_ hF.out) (hall 3 (by decide))
      have e4 : s 20 = .pointer (some ⟨blk, off + k * 2, none⟩) := (p5_ hF.out) (hall 4 (by decide))
      have e5 : s 21 = (.agg #[.int .i64 (hi z), .int .u64 (lo z)]) := (p6_ hF.out) (hall 5 (by decide))
      have e8 : s 24 = .tuple #[(.agg #[.int .i64 th, .int .u64 tl]), .bool t] := (p9_ hF.out) (hall 8 (by decide))
      have e9 : s 15 = .tuple #[(.agg #[.int .i64 th, .int .u64 tl]), .bool t] := (p10_ hF.out) (hall 9 (by decide))
      have e10 : s 25 = (.agg #[.int .i64 th, .int .u64 tl]) := (p11_ hF.out) (hall 10 (by decide))
      have e11 : s 26 = .bool t := (p12_ hF.out) (hall 11 (by decide))
      have e12 : s 6 = .pointer (some ⟨(b 12), 0, none⟩) := ((p13_ hF.out) (hall 12 (by decide))).1
      have le12 : wr.heap.size ≤ b 12 := ((p13_ hF.out) (hall 12 (by decide))).2
      have f13 := (p15_ hF.out) (hall 13 (by decide))
      have e14 : s 7 = .bool t := (p17_ hF.out) (hall 14 (by decide))
      rw [e0, e2, e3, e4, e5, e8, e9, e10, e11, e12, e14]
      clear hall hF e0 e2 e3 e4 e5 e8 e9 e10 e11 e12 e14
      obtain ⟨nb, hz⟩ : ∃ x, x = b 12 := ⟨_, rfl⟩
      rw [← hz] at le12 f13 ⊢
      clear hz
      obtain ⟨q17, hz⟩ : ∃ x, x = s 17 := ⟨_, rfl⟩
      rw [← hz]
      clear hz
      obtain ⟨q22, hz⟩ : ∃ x, x = s 22 := ⟨_, rfl⟩
      rw [← hz]
      clear hz
      obtain ⟨q23, hz⟩ : ∃ x, x = s 23 := ⟨_, rfl⟩
      rw [← hz]
      clear hz
      clear d s b
      have nbS : nb ≠ S := by have := HS.out.lt; omega
      have nSb : S ≠ nb := nbS.symm
      have nbR : nb ≠ R := by have := HR.out.lt; omega
      replace HS := Lib.hid (HS.out.later hB); replace HR := Lib.hid (HR.out.later hB)
      have HN2 := Lib.hid f13
      have hB2 : Below w.heap.size w w1 := Below.go HB.out hB
      clear hB f13 le12 WY WZ SU TW HX HB
      cases t with
      | true =>
        have onb := HN2.out
        have nb0 := onb.at 0 _ rfl
        have nb1 := onb.at 1 _ rfl
        have nbl := onb.lt
        clear onb
        have oS := HS.out
        have S0 := oS.at 0 _ rfl
        have Sf0 := oS.ok 0 (by simp)
        have S1 := oS.at 1 _ rfl
        have Sf1 := oS.ok 1 (by simp)
        have Sl := oS.lt
        clear oS
        go_wp2_with (fail)
        have hB := Below.refl w1.heap.size w1
        clear nb0 nb1 nbl S0 S1 Sf0 Sf1 Sl
        rw [show ((w1.setCell ⟨S, 0, none⟩ (.int .i64 th)).setCell ⟨S, 1, none⟩ (.int .u64 tl)) = w1.setCells S 0 [.int .i64 th, .int .u64 tl] from rfl]
        have HSn : Hid (Own S [.int .i64 th, .int .u64 tl] (w1.setCells S 0 [.int .i64 th, .int .u64 tl])) := Lib.hid (Own.store (vs := [.int .i64 th, .int .u64 tl]) (HS.out.later hB) rfl)
        have HRn : Hid (Own R [.int .i64 0, .int .u64 0] (w1.setCells S 0 [.int .i64 th, .int .u64 tl])) := Lib.hid (Own.far (o := 0) (vs := [.int .i64 th, .int .u64 tl]) (HR.out.later hB) nRS)
        have w2b : Below w.heap.size w (w1.setCells S 0 [.int .i64 th, .int .u64 tl]) := Below.setCells hB2 Sw [.int .i64 th, .int .u64 tl] 0
        generalize (w1.setCells S 0 [.int .i64 th, .int .u64 tl]) = w2 at *
        clear HS HR hB
        have HS := HSn
        clear HSn
        have HR := HRn
        clear HRn
        have e1 := ET.out
        have st := ST.out
        have eh := ETH.out
        have el := ETL.out
        rw [if_pos e1.symm] at st eh el
        subst eh el
        have W2B := Lib.hid w2b
        have ST2 := Lib.hid st.symm
        have IW := Lib.hid e1.symm
        clear ST ETH ETL ET e1 st w2b hB2 HN2
        go_roundw
        case rel => (first | exact ⟨k + 1, y + z, by omega, by go_num, ST2, IW, W2B, HS, HR⟩ | ((repeat apply Exists.intro); exact ⟨⟨k + 1, y + z, by omega, by go_num, ST2, IW, W2B, HS, HR⟩, rfl⟩))
        case measure => simp [intOf]; omega
      | false =>
        have onb := HN2.out
        have nb0 := onb.at 0 _ rfl
        have nb1 := onb.at 1 _ rfl
        have nbl := onb.lt
        clear onb
        have oR := HR.out
        have R0 := oR.at 0 _ rfl
        have Rf0 := oR.ok 0 (by simp)
        have R1 := oR.at 1 _ rfl
        have Rf1 := oR.ok 1 (by simp)
        have Rl := oR.lt
        clear oR
        have e1 := ET.out
        have st := ST.out
        rw [if_neg (by rw [← e1]; decide)] at st
        have ST2 := Lib.hid st
        clear ST ETH ETL ET e1 st
        go_wp2
        exact bodyPost_ret (v := .tuple #[.agg #[.int .i64 0, .int .u64 0], .bool false]) (by simp [results, Try.results39, go_sem, R0, R1, Rf0, Rf1]) rfl ⟨by rw [ST2.out]; rfl, (by repeat (first | (with_reducible exact Below.refl _ _) | (with_reducible assumption) | (with_reducible refine below_drewN ?_ _) | (with_reducible refine Below.drew ?_) | (with_reducible refine Below.alloc ?_ ?_ _) | (with_reducible refine Below.setCell ?_ ?_ _) | (with_reducible exact Nat.le_refl _) | exact Nat.le_succ _ | (simp; done) | (simp; omega) | omega | fail))⟩
    · obtain rfl : k = n := by omega
      have he := hs.out
      rw [List.drop_eq_nil_of_le (by rw [HN.out]; exact Nat.le_refl _)] at he
      have HE := Lib.hid he
      clear he hs
      have oS := HS.out
      have S0 := oS.at 0 _ rfl
      have S1 := oS.at 1 _ rfl
      have Sl := oS.lt
      clear oS
      have oR := HR.out
      have R0 := oR.at 0 _ rfl
      have Rf0 := oR.ok 0 (by simp)
      have R1 := oR.at 1 _ rfl
      have Rf1 := oR.ok 1 (by simp)
      have Rl := oR.lt
      clear oR
      have hB2 := HB.out
      go_wp2
      refine bodyPost_ret (v := .tuple #[.agg #[.int .i64 (hi y), .int .u64 (lo y)], .bool true]) (by simp [results, Try.results39, go_sem, R0, R1, Rf0, Rf1]) rfl ⟨?_, (by repeat (first | (with_reducible exact Below.refl _ _) | (with_reducible assumption) | (with_reducible refine below_drewN ?_ _) | (with_reducible refine Below.drew ?_) | (with_reducible refine Below.alloc ?_ ?_ _) | (with_reducible refine Below.setCell ?_ ?_ _) | (with_reducible exact Nat.le_refl _) | exact Nat.le_succ _ | (simp; done) | (simp; omega) | omega | fail))⟩
      rw [← HE.out]; rfl
end Go.Proofs.Ytgggngcgcpmkbaa
