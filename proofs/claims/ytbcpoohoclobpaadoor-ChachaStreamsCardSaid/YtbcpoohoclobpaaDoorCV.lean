/- ChachaBack: the walk. -/
import Derived.Test.YtbcpoohoclobpaaDoorCU
import Derived.Test.YtbcpoohoclobpaaDoorCR
import Derived.Deep.Onto
namespace Go.Proofs.YtbcpoohoclobpaaDoor
set_option linter.unusedVariables false
set_option maxRecDepth 2000
set_option linter.unusedSimpArgs false
open Go.RowKit
attribute [local go_sem ↓ high] sliced_head sliced_one
/-- a slice of n bytes of f -/
def RowR (w : World) (v : Value) (n : Nat) (f : Nat → Int) : Prop := ∃ q c, v = .slice q n c ∧ n ≤ c ∧ c ≤ 9223372036854775807 ∧ Byt w q n f
theorem RowR.later {w w' : World} {B : Nat} {v : Value} {n : Nat} {f : Nat → Int} (h : RowR w v n f) (hb : Below B w w') (hB : w.heap.size ≤ B) : RowR w' v n f := by
  obtain ⟨q, c, h1, h2, h3, h4⟩ := h
  exact ⟨q, c, h1, h2, h3, h4.later (hb.mono hB)⟩
theorem RowR.of {w : World} {base n : Nat} {e : TypeId} {v : Value} {f : Nat → Int} (h : w.ownsRow base e 1 v n (nums .u8 f n)) : RowR w v n f := by
  obtain ⟨q, c, rfl, hc⟩ := row_form h
  refine ⟨q, c, rfl, hc, ?_, (byt_row h).2⟩
  rcases h.2 with ⟨h0, _⟩ | ⟨g, cap, cur, h0, _, _, _, hm, _⟩
  · cases h0; decide
  · cases h0; unfold maxLen at hm; omega
/-- one part -/
def T1 (m k : Nat) : Nat := if k = 0 then 0 else m
theorem parts_one {w : World} {S m : Nat} {v : Value} {f : Nat → Int} (h : Own S [v] w) (hr : RowR w v m f) : Parts w (some ⟨S, 0, none⟩) 1 f (T1 m) := fun k hk => by
  obtain rfl : k = 0 := by omega
  obtain ⟨q, c, rfl, h2, h3, h4⟩ := hr
  refine ⟨S, 0, q, m, c, rfl, h.lt, h.at 0 _ rfl, h2, h3, ?_, ?_⟩
  · simp [T1]
  · simpa [T1] using h4
theorem Xor_one (kf nf : Nat → Int) (c : Int) (S m : Nat) (v : Value) (g : Nat → Int) (hm : m ≤ 65536) (hk : ∀ i, i < 32 → inB (kf i)) (hn : ∀ i, i < 12 → inB (nf i)) (hc : in32 c) (w : World) (hg : Has 0 0 GL w) (h : Own S [v] w) (hr : RowR w v m g) :
    Calls Tryd.prog 13 #[(.agg (nums .u8 kf 32).toArray), .int .u32 c, (.agg (nums .u8 nf 12).toArray), .slice (some ⟨S, 0, none⟩) 1 1] w fun e w' => ∃ v, e = .returned v ∧ RowR w' v m (fun j => xorB (g j) (strF kf c nf j)) ∧ Below w.heap.size w w' := by
  refine (Xor_any kf nf c (some ⟨S, 0, none⟩) 1 1 g (T1 m) rfl (fun k hk => ?_) (Nat.le_refl _) (by decide) hk hn hc w hg (parts_one h hr)).mono ?_
  · unfold T1
    split
    · exact Nat.zero_le _
    · exact hm
  · rintro e w' ⟨v', rfl, h1, h2⟩
    exact ⟨v', rfl, RowR.of h1, h2⟩
theorem Xor_two (kf nf : Nat → Int) (c : Int) (S m : Nat) (v : Value) (g : Nat → Int) (hgb : ∀ j, j < m → inB (g j)) (hm : m ≤ 65536) (hk : ∀ i, i < 32 → inB (kf i)) (hn : ∀ i, i < 12 → inB (nf i)) (hc : in32 c) (w : World) (hg : Has 0 0 GL w) (h : Own S [v] w) (hr : RowR w v m (fun j => xorB (g j) (strF kf c nf j))) :
    Calls Tryd.prog 13 #[(.agg (nums .u8 kf 32).toArray), .int .u32 c, (.agg (nums .u8 nf 12).toArray), .slice (some ⟨S, 0, none⟩) 1 1] w fun e w' => ∃ v, e = .returned v ∧ RowR w' v m g ∧ Below w.heap.size w w' := by
  refine (Xor_one kf nf c S m v (fun j => xorB (g j) (strF kf c nf j)) hm hk hn hc w hg h hr).mono ?_
  rintro e w' ⟨v', rfl, ⟨q', c', h1, h2, h3, h4⟩, h5⟩
  refine ⟨v', rfl, ⟨q', c', h1, h2, h3, ?_⟩, h5⟩
  rcases h4 with h4 | ⟨b, off, h6, h7⟩
  · exact .inl h4
  · refine .inr ⟨b, off, h6, ?_⟩
    rwa [show nums .u8 (fun j => xorB (xorB (g j) (strF kf c nf j)) (strF kf c nf j)) m = nums .u8 g m from nums_congr _ fun j hj => xorB_back (hgb j hj) (in_strF kf c nf j)] at h7

set_option maxHeartbeats 8000000 in
theorem Back_core (kf nf : Nat → Int) (c : Int) (q : Option Addr) (n cq m : Nat) (g : Nat → Int) (em : min (n : Int) 400 = (m : Int)) (hmn : m ≤ n) (hnc : n ≤ cq) (hcm : cq ≤ 9223372036854775807) (hgb : ∀ j, j < m → inB (g j)) (hk : ∀ i, i < 32 → inB (kf i)) (hn : ∀ i, i < 12 → inB (nf i)) (hc : in32 c) (w : World) (hg : Has 0 0 GL w) (hq : Byt w q m g) :
    Calls Tryd.prog 5 #[(.agg (seedC kf c nf).toArray), .slice q n cq] w fun e w' => e = .returned (.bool true) ∧ Below w.heap.size w w' := by
  have FK := Lib.hid hk; have FN := Lib.hid hn; have FC := Lib.hid hc; have HG0 := Lib.hid hg; have HQ0 := Lib.hid hq; have GB := Lib.hid hgb
  have m4 : (m : Int) ≤ 400 := by omega
  have MM := Lib.hid (show m ≤ 65536 by omega)
  clear m4
  have MN := Lib.hid hmn; have NC := Lib.hid hnc; have CM := Lib.hid hcm
  have u1 : (0 : Int) ≤ (m : Int) := by omega
  have u2 : (m : Int) ≤ (cq : Int) := by omega
  have u3 : (m : Int) ≤ (n : Int) := by omega
  clear hk hn hc hg hq hgb hmn hnc hcm
  go_enter Tryd.func5, Tryd.ntmps5
  go_upto_region 1 with fail
  obtain ⟨W0, hW⟩ : ∃ W0, W0 = (w.alloc (.cells (seedC kf c nf).toArray 32)) := ⟨_, rfl⟩
  have hB0 : Below w.heap.size w W0 := hW ▸ (Below.al (Below.refl _ _))
  have HD : Hid (Own w.heap.size (seedC kf c nf) W0) := Lib.hid (hW ▸ (show Own w.heap.size (seedC kf c nf) (w.alloc (.cells (seedC kf c nf).toArray 32)) from Own.newAt (by simp)))
  rw [← hW]
  clear hW
  obtain ⟨D, eD⟩ : ∃ X, X = w.heap.size := ⟨_, rfl⟩
  rw [← eD] at HD ⊢
  have Dw : w.heap.size ≤ D := by omega
  clear eD
  have HG := Lib.hid (HG0.out.later hB0)
  have HQ := Lib.hid (HQ0.out.later hB0)
  replace HD := Lib.hid HD.out.has
  have RQ : Hid (RowR W0 (.slice q m cq) m g) := Lib.hid ⟨q, cq, rfl, by have := MN.out; have := NC.out; omega, CM.out, HQ.out⟩
  clear HG0 HQ0
  go_upto_region 2 with fail
  refine wp_region_fun 18 (by kernel_rfl) (by kernel_rfl) rfl (fun s b => ⟨#[(.agg (seedC kf c nf).toArray), (.slice q m cq), .pointer (some ⟨D, 0, none⟩), undef, .bool false, s 5, (.slice q n cq), (.slice q n cq), .int .i64 (n : Nat), .int .i64 (m : Nat), (.slice q m cq), s 11, s 12, s 13, s 14, s 15, s 16, s 17, s 18, s 19, s 20, s 21, s 22, s 23, s 24, s 25, s 26, s 27, undef, undef, undef, undef, undef, undef, undef, undef, undef, undef, undef, undef, undef], []⟩) (fun d s b w => (Below W0.heap.size W0 w) ∧ (d 0 = true → s 11 = .pointer (some ⟨D, 0, none⟩)) ∧ (d 1 = true → s 12 = (.agg (nums .u8 kf 32).toArray)) ∧ (d 2 = true → s 13 = .pointer (some ⟨D, 32, none⟩)) ∧ (d 3 = true → s 14 = .int .u32 c) ∧ (d 4 = true → s 15 = .pointer (some ⟨D, 33, none⟩)) ∧ (d 5 = true → s 16 = (.agg (nums .u8 nf 12).toArray)) ∧ (d 6 = true → s 17 = .pointer (some ⟨D, 0, none⟩)) ∧ (d 7 = true → s 18 = (.agg (nums .u8 kf 32).toArray)) ∧ (d 8 = true → s 19 = .pointer (some ⟨D, 32, none⟩)) ∧ (d 9 = true → s 20 = .int .u32 c) ∧ (d 10 = true → s 21 = .pointer (some ⟨D, 33, none⟩)) ∧ (d 11 = true → s 22 = (.agg (nums .u8 nf 12).toArray)) ∧ (d 12 = true → s 23 = (.slice q m cq)) ∧ (d 13 = true → s 24 = .slice (some ⟨(b 13), 0, none⟩) 1 1 ∧ W0.heap.size ≤ b 13) ∧ (d 13 = true → d 14 = false → Own (b 13) [(.slice q m cq)] w) ∧ (d 14 = true → RowR w (s 25) m (fun j => xorB (g j) (strF kf c nf j))) ∧ (d 15 = true → s 26 = .slice (some ⟨(b 15), 0, none⟩) 1 1 ∧ W0.heap.size ≤ b 15) ∧ (d 15 = true → d 16 = false → Own (b 15) [s 25] w) ∧ (d 16 = true → RowR w (s 27) m g) ∧ (d 17 = true → s 5 = s 27) ∧ (d 15 = true → d 14 = true) ∧ (d 17 = true → d 16 = true)) rfl ?h0y1 (?sty1 : StepsF _ _ _ _ 18 _ _ [0, 1, 2, 3, 4, 5, 6, 7, 8, 9, 10, 11, 12, 13, 14, 15, 16, 17]) ?dny1
  case h0y1 => exact ⟨Below.drew (Below.refl _ _), (fun h => nomatch h), (fun h => nomatch h), (fun h => nomatch h), (fun h => nomatch h), (fun h => nomatch h), (fun h => nomatch h), (fun h => nomatch h), (fun h => nomatch h), (fun h => nomatch h), (fun h => nomatch h), (fun h => nomatch h), (fun h => nomatch h), (fun h => nomatch h), (fun h => nomatch h), (fun h => nomatch h), (fun h => nomatch h), (fun h => nomatch h), (fun h => nomatch h), (fun h => nomatch h), (fun h => nomatch h), (fun h => nomatch h), (fun h => nomatch h)⟩
  case sty1 =>
    refine StepsF.cons (o := _) rfl (ws := []) (by kernel_rfl) (by decide) (fun d s b w hF hd hw K hK => ?_) ?_
    · have hB : Below W0.heap.size W0 w := (p0_ hF.out)
      dsimp only
      go_simp
      exact hK.out (ups s 11 (.pointer (some ⟨D, 0, none⟩))) b _ ⟨hB, (fun _ => rfl), (p2_ hF.out), (p3_ hF.out), (p4_ hF.out), (p5_ hF.out), (p6_ hF.out), (p7_ hF.out), (p8_ hF.out), (p9_ hF.out), (p10_ hF.out), (p11_ hF.out), (p12_ hF.out), (p13_ hF.out), (p14_ hF.out), (p15_ hF.out), (p16_ hF.out), (p17_ hF.out), (p18_ hF.out), (p19_ hF.out), (p20_ hF.out), (p21_ hF.out), (q22_ hF.out)⟩
    refine StepsF.cons (o := _) rfl (ws := [0]) (by kernel_rfl) (by decide) (fun d s b w hF hd hw K hK => ?_) ?_
    · have hB : Below W0.heap.size W0 w := (p0_ hF.out)
      have e0 : s 11 = .pointer (some ⟨D, 0, none⟩) := (p1_ hF.out) (hw 0 (by decide))
      refine step_load (by simp [Region.wanted]) 22 _ rfl D 0 e0 (nums .u8 kf 32) _ (seed_key (HD.out.later hB)).cell Tryd.underlying22 rfl (by kernel_rfl) ?_
      exact hK.out (ups s 12 ((.agg (nums .u8 kf 32).toArray))) b _ ⟨hB, (p1_ hF.out), (fun _ => rfl), (p3_ hF.out), (p4_ hF.out), (p5_ hF.out), (p6_ hF.out), (p7_ hF.out), (p8_ hF.out), (p9_ hF.out), (p10_ hF.out), (p11_ hF.out), (p12_ hF.out), (p13_ hF.out), (p14_ hF.out), (p15_ hF.out), (p16_ hF.out), (p17_ hF.out), (p18_ hF.out), (p19_ hF.out), (p20_ hF.out), (p21_ hF.out), (q22_ hF.out)⟩
    refine StepsF.cons (o := _) rfl (ws := []) (by kernel_rfl) (by decide) (fun d s b w hF hd hw K hK => ?_) ?_
    · have hB : Below W0.heap.size W0 w := (p0_ hF.out)
      dsimp only
      go_simp
      exact hK.out (ups s 13 (.pointer (some ⟨D, 32, none⟩))) b _ ⟨hB, (p1_ hF.out), (p2_ hF.out), (fun _ => rfl), (p4_ hF.out), (p5_ hF.out), (p6_ hF.out), (p7_ hF.out), (p8_ hF.out), (p9_ hF.out), (p10_ hF.out), (p11_ hF.out), (p12_ hF.out), (p13_ hF.out), (p14_ hF.out), (p15_ hF.out), (p16_ hF.out), (p17_ hF.out), (p18_ hF.out), (p19_ hF.out), (p20_ hF.out), (p21_ hF.out), (q22_ hF.out)⟩
    refine StepsF.cons (o := _) rfl (ws := [2]) (by kernel_rfl) (by decide) (fun d s b w hF hd hw K hK => ?_) ?_
    · have hB : Below W0.heap.size W0 w := (p0_ hF.out)
      have e2 : s 13 = .pointer (some ⟨D, 32, none⟩) := (p3_ hF.out) (hw 2 (by decide))
      dsimp only
      have cc := seed_ctr (HD.out.later hB)
      go_simp
      exact hK.out (ups (ups s 13 (.pointer (some ⟨D, 32, none⟩))) 14 (.int .u32 c)) b _ ⟨hB, (p1_ hF.out), (p2_ hF.out), (fun _ => rfl), (fun _ => rfl), (p5_ hF.out), (p6_ hF.out), (p7_ hF.out), (p8_ hF.out), (p9_ hF.out), (p10_ hF.out), (p11_ hF.out), (p12_ hF.out), (p13_ hF.out), (p14_ hF.out), (p15_ hF.out), (p16_ hF.out), (p17_ hF.out), (p18_ hF.out), (p19_ hF.out), (p20_ hF.out), (p21_ hF.out), (q22_ hF.out)⟩
    refine StepsF.cons (o := _) rfl (ws := []) (by kernel_rfl) (by decide) (fun d s b w hF hd hw K hK => ?_) ?_
    · have hB : Below W0.heap.size W0 w := (p0_ hF.out)
      dsimp only
      go_simp
      exact hK.out (ups s 15 (.pointer (some ⟨D, 33, none⟩))) b _ ⟨hB, (p1_ hF.out), (p2_ hF.out), (p3_ hF.out), (p4_ hF.out), (fun _ => rfl), (p6_ hF.out), (p7_ hF.out), (p8_ hF.out), (p9_ hF.out), (p10_ hF.out), (p11_ hF.out), (p12_ hF.out), (p13_ hF.out), (p14_ hF.out), (p15_ hF.out), (p16_ hF.out), (p17_ hF.out), (p18_ hF.out), (p19_ hF.out), (p20_ hF.out), (p21_ hF.out), (q22_ hF.out)⟩
    refine StepsF.cons (o := _) rfl (ws := [4]) (by kernel_rfl) (by decide) (fun d s b w hF hd hw K hK => ?_) ?_
    · have hB : Below W0.heap.size W0 w := (p0_ hF.out)
      have e4 : s 15 = .pointer (some ⟨D, 33, none⟩) := (p5_ hF.out) (hw 4 (by decide))
      refine step_load (by simp [Region.wanted]) 24 _ rfl D 33 e4 (nums .u8 nf 12) _ (seed_non (HD.out.later hB)).cell Tryd.underlying24 rfl (by kernel_rfl) ?_
      exact hK.out (ups s 16 ((.agg (nums .u8 nf 12).toArray))) b _ ⟨hB, (p1_ hF.out), (p2_ hF.out), (p3_ hF.out), (p4_ hF.out), (p5_ hF.out), (fun _ => rfl), (p7_ hF.out), (p8_ hF.out), (p9_ hF.out), (p10_ hF.out), (p11_ hF.out), (p12_ hF.out), (p13_ hF.out), (p14_ hF.out), (p15_ hF.out), (p16_ hF.out), (p17_ hF.out), (p18_ hF.out), (p19_ hF.out), (p20_ hF.out), (p21_ hF.out), (q22_ hF.out)⟩
    refine StepsF.cons (o := _) rfl (ws := []) (by kernel_rfl) (by decide) (fun d s b w hF hd hw K hK => ?_) ?_
    · have hB : Below W0.heap.size W0 w := (p0_ hF.out)
      dsimp only
      go_simp
      exact hK.out (ups s 17 (.pointer (some ⟨D, 0, none⟩))) b _ ⟨hB, (p1_ hF.out), (p2_ hF.out), (p3_ hF.out), (p4_ hF.out), (p5_ hF.out), (p6_ hF.out), (fun _ => rfl), (p8_ hF.out), (p9_ hF.out), (p10_ hF.out), (p11_ hF.out), (p12_ hF.out), (p13_ hF.out), (p14_ hF.out), (p15_ hF.out), (p16_ hF.out), (p17_ hF.out), (p18_ hF.out), (p19_ hF.out), (p20_ hF.out), (p21_ hF.out), (q22_ hF.out)⟩
    refine StepsF.cons (o := _) rfl (ws := [6]) (by kernel_rfl) (by decide) (fun d s b w hF hd hw K hK => ?_) ?_
    · have hB : Below W0.heap.size W0 w := (p0_ hF.out)
      have e6 : s 17 = .pointer (some ⟨D, 0, none⟩) := (p7_ hF.out) (hw 6 (by decide))
      refine step_load (by simp [Region.wanted]) 22 _ rfl D 0 e6 (nums .u8 kf 32) _ (seed_key (HD.out.later hB)).cell Tryd.underlying22 rfl (by kernel_rfl) ?_
      exact hK.out (ups s 18 ((.agg (nums .u8 kf 32).toArray))) b _ ⟨hB, (p1_ hF.out), (p2_ hF.out), (p3_ hF.out), (p4_ hF.out), (p5_ hF.out), (p6_ hF.out), (p7_ hF.out), (fun _ => rfl), (p9_ hF.out), (p10_ hF.out), (p11_ hF.out), (p12_ hF.out), (p13_ hF.out), (p14_ hF.out), (p15_ hF.out), (p16_ hF.out), (p17_ hF.out), (p18_ hF.out), (p19_ hF.out), (p20_ hF.out), (p21_ hF.out), (q22_ hF.out)⟩
    refine StepsF.cons (o := _) rfl (ws := []) (by kernel_rfl) (by decide) (fun d s b w hF hd hw K hK => ?_) ?_
    · have hB : Below W0.heap.size W0 w := (p0_ hF.out)
      dsimp only
      go_simp
      exact hK.out (ups s 19 (.pointer (some ⟨D, 32, none⟩))) b _ ⟨hB, (p1_ hF.out), (p2_ hF.out), (p3_ hF.out), (p4_ hF.out), (p5_ hF.out), (p6_ hF.out), (p7_ hF.out), (p8_ hF.out), (fun _ => rfl), (p10_ hF.out), (p11_ hF.out), (p12_ hF.out), (p13_ hF.out), (p14_ hF.out), (p15_ hF.out), (p16_ hF.out), (p17_ hF.out), (p18_ hF.out), (p19_ hF.out), (p20_ hF.out), (p21_ hF.out), (q22_ hF.out)⟩
    refine StepsF.cons (o := _) rfl (ws := [8]) (by kernel_rfl) (by decide) (fun d s b w hF hd hw K hK => ?_) ?_
    · have hB : Below W0.heap.size W0 w := (p0_ hF.out)
      have e8 : s 19 = .pointer (some ⟨D, 32, none⟩) := (p9_ hF.out) (hw 8 (by decide))
      dsimp only
      have cc := seed_ctr (HD.out.later hB)
      go_simp
      exact hK.out (ups (ups s 19 (.pointer (some ⟨D, 32, none⟩))) 20 (.int .u32 c)) b _ ⟨hB, (p1_ hF.out), (p2_ hF.out), (p3_ hF.out), (p4_ hF.out), (p5_ hF.out), (p6_ hF.out), (p7_ hF.out), (p8_ hF.out), (fun _ => rfl), (fun _ => rfl), (p11_ hF.out), (p12_ hF.out), (p13_ hF.out), (p14_ hF.out), (p15_ hF.out), (p16_ hF.out), (p17_ hF.out), (p18_ hF.out), (p19_ hF.out), (p20_ hF.out), (p21_ hF.out), (q22_ hF.out)⟩
    refine StepsF.cons (o := _) rfl (ws := []) (by kernel_rfl) (by decide) (fun d s b w hF hd hw K hK => ?_) ?_
    · have hB : Below W0.heap.size W0 w := (p0_ hF.out)
      dsimp only
      go_simp
      exact hK.out (ups s 21 (.pointer (some ⟨D, 33, none⟩))) b _ ⟨hB, (p1_ hF.out), (p2_ hF.out), (p3_ hF.out), (p4_ hF.out), (p5_ hF.out), (p6_ hF.out), (p7_ hF.out), (p8_ hF.out), (p9_ hF.out), (p10_ hF.out), (fun _ => rfl), (p12_ hF.out), (p13_ hF.out), (p14_ hF.out), (p15_ hF.out), (p16_ hF.out), (p17_ hF.out), (p18_ hF.out), (p19_ hF.out), (p20_ hF.out), (p21_ hF.out), (q22_ hF.out)⟩
    refine StepsF.cons (o := _) rfl (ws := [10]) (by kernel_rfl) (by decide) (fun d s b w hF hd hw K hK => ?_) ?_
    · have hB : Below W0.heap.size W0 w := (p0_ hF.out)
      have e10 : s 21 = .pointer (some ⟨D, 33, none⟩) := (p11_ hF.out) (hw 10 (by decide))
      refine step_load (by simp [Region.wanted]) 24 _ rfl D 33 e10 (nums .u8 nf 12) _ (seed_non (HD.out.later hB)).cell Tryd.underlying24 rfl (by kernel_rfl) ?_
      exact hK.out (ups s 22 ((.agg (nums .u8 nf 12).toArray))) b _ ⟨hB, (p1_ hF.out), (p2_ hF.out), (p3_ hF.out), (p4_ hF.out), (p5_ hF.out), (p6_ hF.out), (p7_ hF.out), (p8_ hF.out), (p9_ hF.out), (p10_ hF.out), (p11_ hF.out), (fun _ => rfl), (p13_ hF.out), (p14_ hF.out), (p15_ hF.out), (p16_ hF.out), (p17_ hF.out), (p18_ hF.out), (p19_ hF.out), (p20_ hF.out), (p21_ hF.out), (q22_ hF.out)⟩
    refine StepsF.cons (o := _) rfl (ws := []) (by kernel_rfl) (by decide) (fun d s b w hF hd hw K hK => ?_) ?_
    · have hB : Below W0.heap.size W0 w := (p0_ hF.out)
      dsimp only
      go_simp
      exact hK.out (ups s 23 ((.slice q m cq))) b _ ⟨hB, (p1_ hF.out), (p2_ hF.out), (p3_ hF.out), (p4_ hF.out), (p5_ hF.out), (p6_ hF.out), (p7_ hF.out), (p8_ hF.out), (p9_ hF.out), (p10_ hF.out), (p11_ hF.out), (p12_ hF.out), (fun _ => rfl), (p14_ hF.out), (p15_ hF.out), (p16_ hF.out), (p17_ hF.out), (p18_ hF.out), (p19_ hF.out), (p20_ hF.out), (p21_ hF.out), (q22_ hF.out)⟩
    refine StepsF.cons (o := _) rfl (ws := [12]) (by kernel_rfl) (by decide) (fun d s b w hF hd hw K hK => ?_) ?_
    · have hB : Below W0.heap.size W0 w := (p0_ hF.out)
      have e12 : s 23 = (.slice q m cq) := (p13_ hF.out) (hw 12 (by decide))
      dsimp only
      go_simp
      exact hK.out (ups (ups s 23 ((.slice q m cq))) 24 (.slice (some ⟨w.heap.size, 0, none⟩) 1 1)) (ups b 13 w.heap.size) _ ⟨(hB.alloc hB.size _), (p1_ hF.out), (p2_ hF.out), (p3_ hF.out), (p4_ hF.out), (p5_ hF.out), (p6_ hF.out), (p7_ hF.out), (p8_ hF.out), (p9_ hF.out), (p10_ hF.out), (p11_ hF.out), (p12_ hF.out), (fun _ => rfl), (fun _ => ⟨rfl, hB.size⟩), (fun _ _ => Own.newAt rfl), (fun h0 => ((p16_ hF.out) h0).later (Below.al (Below.refl _ _)) (Nat.le_refl _)), (p17_ hF.out), (fun h0 h1 => ((p18_ hF.out) h0 h1).alloc), (fun h0 => ((p19_ hF.out) h0).later (Below.al (Below.refl _ _)) (Nat.le_refl _)), (p20_ hF.out), (p21_ hF.out), (q22_ hF.out)⟩
    refine StepsF.cons (o := _) rfl (ws := [7, 9, 11, 13]) (by kernel_rfl) (by decide) (fun d s b w hF hd hw K hK => ?_) ?_
    · have hB : Below W0.heap.size W0 w := (p0_ hF.out)
      have e7 : s 18 = (.agg (nums .u8 kf 32).toArray) := (p8_ hF.out) (hw 7 (by decide))
      have e9 : s 20 = .int .u32 c := (p10_ hF.out) (hw 9 (by decide))
      have e11 : s 22 = (.agg (nums .u8 nf 12).toArray) := (p12_ hF.out) (hw 11 (by decide))
      have e13 : s 24 = .slice (some ⟨(b 13), 0, none⟩) 1 1 := ((p14_ hF.out) (hw 13 (by decide))).1
      have le13 : W0.heap.size ≤ b 13 := ((p14_ hF.out) (hw 13 (by decide))).2
      dsimp only
      go_simp
      go_at_call 13
      refine (Xor_one kf nf c _ m _ g MM.out FK.out FN.out FC.out _ (HG.out.later hB) (((p15_ hF.out) (hw 13 (by decide))) hd) (RQ.out.later hB (Nat.le_refl _))).mono ?_
      rintro e w1 ⟨v, rfl, hv, hb⟩
      exact hK.out (ups (ups (ups (ups (ups s 18 ((.agg (nums .u8 kf 32).toArray))) 20 (.int .u32 c)) 22 ((.agg (nums .u8 nf 12).toArray))) 24 (.slice (some ⟨(b 13), 0, none⟩) 1 1)) 25 (v)) b _ ⟨(Below.go hB hb), (p1_ hF.out), (p2_ hF.out), (p3_ hF.out), (p4_ hF.out), (p5_ hF.out), (p6_ hF.out), (p7_ hF.out), (fun _ => rfl), (p9_ hF.out), (fun _ => rfl), (p11_ hF.out), (fun _ => rfl), (p13_ hF.out), (fun _ => ⟨rfl, le13⟩), (fun _ h => nomatch h), (fun _ => hv), (p17_ hF.out), (fun h _ => absurd ((p21_ hF.out) h) (by simp [hd])), (fun h0 => ((p19_ hF.out) h0).later hb (Nat.le_refl _)), (p20_ hF.out), (fun _ => rfl), (q22_ hF.out)⟩
    refine StepsF.cons (o := _) rfl (ws := [14]) (by kernel_rfl) (by decide) (fun d s b w hF hd hw K hK => ?_) ?_
    · have hB : Below W0.heap.size W0 w := (p0_ hF.out)
      dsimp only
      obtain ⟨q1, c1, e14, z1, z2, z3⟩ := ((p16_ hF.out) (hw 14 (by decide)))
      go_simp
      exact hK.out (ups (ups s 25 ((.slice q1 m c1))) 26 (.slice (some ⟨w.heap.size, 0, none⟩) 1 1)) (ups b 15 w.heap.size) _ ⟨(hB.alloc hB.size _), (p1_ hF.out), (p2_ hF.out), (p3_ hF.out), (p4_ hF.out), (p5_ hF.out), (p6_ hF.out), (p7_ hF.out), (p8_ hF.out), (p9_ hF.out), (p10_ hF.out), (p11_ hF.out), (p12_ hF.out), (p13_ hF.out), (p14_ hF.out), (fun h0 h1 => ((p15_ hF.out) h0 h1).alloc), (fun _ => ⟨q1, c1, rfl, z1, z2, z3.later (Below.al (Below.refl _ _))⟩), (fun _ => ⟨rfl, hB.size⟩), (fun _ _ => Own.newAt rfl), (fun h0 => ((p19_ hF.out) h0).later (Below.al (Below.refl _ _)) (Nat.le_refl _)), (p20_ hF.out), (fun _ => hw 14 (by decide)), (q22_ hF.out)⟩
    refine StepsF.cons (o := _) rfl (ws := [1, 3, 5, 15, 14]) (by kernel_rfl) (by decide) (fun d s b w hF hd hw K hK => ?_) ?_
    · have hB : Below W0.heap.size W0 w := (p0_ hF.out)
      have e1 : s 12 = (.agg (nums .u8 kf 32).toArray) := (p2_ hF.out) (hw 1 (by decide))
      have e3 : s 14 = .int .u32 c := (p4_ hF.out) (hw 3 (by decide))
      have e5 : s 16 = (.agg (nums .u8 nf 12).toArray) := (p6_ hF.out) (hw 5 (by decide))
      have e15 : s 26 = .slice (some ⟨(b 15), 0, none⟩) 1 1 := ((p17_ hF.out) (hw 15 (by decide))).1
      have le15 : W0.heap.size ≤ b 15 := ((p17_ hF.out) (hw 15 (by decide))).2
      dsimp only
      go_simp
      go_at_call 13
      refine (Xor_two kf nf c _ m _ g GB.out MM.out FK.out FN.out FC.out _ (HG.out.later hB) (((p18_ hF.out) (hw 15 (by decide))) hd) ((p16_ hF.out) (hw 14 (by decide)))).mono ?_
      rintro e w1 ⟨v, rfl, hv, hb⟩
      exact hK.out (ups (ups (ups (ups (ups s 12 ((.agg (nums .u8 kf 32).toArray))) 14 (.int .u32 c)) 16 ((.agg (nums .u8 nf 12).toArray))) 26 (.slice (some ⟨(b 15), 0, none⟩) 1 1)) 27 (v)) b _ ⟨(Below.go hB hb), (p1_ hF.out), (fun _ => rfl), (p3_ hF.out), (fun _ => rfl), (p5_ hF.out), (fun _ => rfl), (p7_ hF.out), (p8_ hF.out), (p9_ hF.out), (p10_ hF.out), (p11_ hF.out), (p12_ hF.out), (p13_ hF.out), (p14_ hF.out), (fun h0 h1 => ((p15_ hF.out) h0 h1).later hb), (fun h0 => ((p16_ hF.out) h0).later hb (Nat.le_refl _)), (fun _ => ⟨rfl, le15⟩), (fun _ h => nomatch h), (fun _ => hv), (fun h => absurd ((q22_ hF.out) h) (by simp [hd])), (p21_ hF.out), (fun _ => rfl)⟩
    refine StepsF.cons (o := _) rfl (ws := [16, 16, 0, 1, 2, 3, 4, 5, 6, 7, 8, 9, 10, 11, 12, 13, 14, 15, 16]) (by kernel_rfl) (by decide) (fun d s b w hF hd hw K hK => ?_) ?_
    · have hB : Below W0.heap.size W0 w := (p0_ hF.out)
      have e0 : s 11 = .pointer (some ⟨D, 0, none⟩) := (p1_ hF.out) (hw 0 (by decide))
      have e1 : s 12 = (.agg (nums .u8 kf 32).toArray) := (p2_ hF.out) (hw 1 (by decide))
      have e2 : s 13 = .pointer (some ⟨D, 32, none⟩) := (p3_ hF.out) (hw 2 (by decide))
      have e3 : s 14 = .int .u32 c := (p4_ hF.out) (hw 3 (by decide))
      have e4 : s 15 = .pointer (some ⟨D, 33, none⟩) := (p5_ hF.out) (hw 4 (by decide))
      have e5 : s 16 = (.agg (nums .u8 nf 12).toArray) := (p6_ hF.out) (hw 5 (by decide))
      have e6 : s 17 = .pointer (some ⟨D, 0, none⟩) := (p7_ hF.out) (hw 6 (by decide))
      have e7 : s 18 = (.agg (nums .u8 kf 32).toArray) := (p8_ hF.out) (hw 7 (by decide))
      have e8 : s 19 = .pointer (some ⟨D, 32, none⟩) := (p9_ hF.out) (hw 8 (by decide))
      have e9 : s 20 = .int .u32 c := (p10_ hF.out) (hw 9 (by decide))
      have e10 : s 21 = .pointer (some ⟨D, 33, none⟩) := (p11_ hF.out) (hw 10 (by decide))
      have e11 : s 22 = (.agg (nums .u8 nf 12).toArray) := (p12_ hF.out) (hw 11 (by decide))
      have e12 : s 23 = (.slice q m cq) := (p13_ hF.out) (hw 12 (by decide))
      have e13 : s 24 = .slice (some ⟨(b 13), 0, none⟩) 1 1 := ((p14_ hF.out) (hw 13 (by decide))).1
      have le13 : W0.heap.size ≤ b 13 := ((p14_ hF.out) (hw 13 (by decide))).2
      have e15 : s 26 = .slice (some ⟨(b 15), 0, none⟩) 1 1 := ((p17_ hF.out) (hw 15 (by decide))).1
      have le15 : W0.heap.size ≤ b 15 := ((p17_ hF.out) (hw 15 (by decide))).2
      dsimp only
      go_simp
      exact hK.out (ups (ups (ups (ups (ups (ups (ups (ups (ups (ups (ups (ups (ups (ups (ups (ups s 11 (.pointer (some ⟨D, 0, none⟩))) 12 ((.agg (nums .u8 kf 32).toArray))) 13 (.pointer (some ⟨D, 32, none⟩))) 14 (.int .u32 c)) 15 (.pointer (some ⟨D, 33, none⟩))) 16 ((.agg (nums .u8 nf 12).toArray))) 17 (.pointer (some ⟨D, 0, none⟩))) 18 ((.agg (nums .u8 kf 32).toArray))) 19 (.pointer (some ⟨D, 32, none⟩))) 20 (.int .u32 c)) 21 (.pointer (some ⟨D, 33, none⟩))) 22 ((.agg (nums .u8 nf 12).toArray))) 23 ((.slice q m cq))) 24 (.slice (some ⟨(b 13), 0, none⟩) 1 1)) 26 (.slice (some ⟨(b 15), 0, none⟩) 1 1)) 5 (s 27)) b _ ⟨hB, (fun _ => rfl), (fun _ => rfl), (fun _ => rfl), (fun _ => rfl), (fun _ => rfl), (fun _ => rfl), (fun _ => rfl), (fun _ => rfl), (fun _ => rfl), (fun _ => rfl), (fun _ => rfl), (fun _ => rfl), (fun _ => rfl), (fun _ => ⟨rfl, le13⟩), (p15_ hF.out), (p16_ hF.out), (fun _ => ⟨rfl, le15⟩), (p18_ hF.out), (p19_ hF.out), (fun _ => rfl), (p21_ hF.out), (fun _ => hw 16 (by decide))⟩
    exact StepsF.nil
  intro d s b y1 hF hall
  replace hF := Lib.hid hF
  have hB : Below W0.heap.size W0 y1 := (p0_ hF.out)
  try dsimp only
  have e0 : s 11 = .pointer (some ⟨D, 0, none⟩) := (p1_ hF.out) (hall 0 (by decide))
  have e1 : s 12 = (.agg (nums .u8 kf 32).toArray) := (p2_ hF.out) (hall 1 (by decide))
  have e2 : s 13 = .pointer (some ⟨D, 32, none⟩) := (p3_ hF.out) (hall 2 (by decide))
  have e3 : s 14 = .int .u32 c := (p4_ hF.out) (hall 3 (by decide))
  have e4 : s 15 = .pointer (some ⟨D, 33, none⟩) := (p5_ hF.out) (hall 4 (by decide))
  have e5 : s 16 = (.agg (nums .u8 nf 12).toArray) := (p6_ hF.out) (hall 5 (by decide))
  have e6 : s 17 = .pointer (some ⟨D, 0, none⟩) := (p7_ hF.out) (hall 6 (by decide))
  have e7 : s 18 = (.agg (nums .u8 kf 32).toArray) := (p8_ hF.out) (hall 7 (by decide))
  have e8 : s 19 = .pointer (some ⟨D, 32, none⟩) := (p9_ hF.out) (hall 8 (by decide))
  have e9 : s 20 = .int .u32 c := (p10_ hF.out) (hall 9 (by decide))
  have e10 : s 21 = .pointer (some ⟨D, 33, none⟩) := (p11_ hF.out) (hall 10 (by decide))
  have e11 : s 22 = (.agg (nums .u8 nf 12).toArray) := (p12_ hF.out) (hall 11 (by decide))
  have e12 : s 23 = (.slice q m cq) := (p13_ hF.out) (hall 12 (by decide))
  have e13 : s 24 = .slice (some ⟨(b 13), 0, none⟩) 1 1 := ((p14_ hF.out) (hall 13 (by decide))).1
  have le13 : W0.heap.size ≤ b 13 := ((p14_ hF.out) (hall 13 (by decide))).2
  have f14 := (p16_ hF.out) (hall 14 (by decide))
  have e15 : s 26 = .slice (some ⟨(b 15), 0, none⟩) 1 1 := ((p17_ hF.out) (hall 15 (by decide))).1
  have le15 : W0.heap.size ≤ b 15 := ((p17_ hF.out) (hall 15 (by decide))).2
  have f16 := (p19_ hF.out) (hall 16 (by decide))
  have e17 : s 5 = s 27 := (p20_ hF.out) (hall 17 (by decide))
  rw [e0, e1, e2, e3, e4, e5, e6, e7, e8, e9, e10, e11, e12, e13, e15, e17]
  clear hall hF e0 e1 e2 e3 e4 e5 e6 e7 e8 e9 e10 e11 e12 e13 e15 e17
  obtain ⟨S1, hz⟩ : ∃ x, x = b 13 := ⟨_, rfl⟩
  rw [← hz] at le13 ⊢
  clear hz
  obtain ⟨S2, hz⟩ : ∃ x, x = b 15 := ⟨_, rfl⟩
  rw [← hz] at le15 ⊢
  clear hz
  obtain ⟨q25, hz⟩ : ∃ x, x = s 25 := ⟨_, rfl⟩
  rw [← hz] at f14 ⊢
  clear hz
  obtain ⟨q27, hz⟩ : ∃ x, x = s 27 := ⟨_, rfl⟩
  rw [← hz] at f16 ⊢
  clear hz
  clear d s b
  obtain ⟨q2, c2, rfl, hc2, hc3, hby⟩ := f16
  have BY2 := Lib.hid hby
  have BY1 := Lib.hid (HQ.out.later hB)
  have hB1 := Below.go hB0 hB
  clear f14 hby hB hB0 HQ HG HD RQ em
  go_wp2_with (first | (go_at_call 12; refine (Equal_any _ _ m _ _ g _ BY2.out BY1.out).mono ?_; rintro e w3 ⟨rfl, hb3⟩) | (go_at_call 11; refine (works_any _).mono ?_; rintro e w4 ⟨rfl, hb4⟩))
  all_goals (go_ret; exact ⟨rfl, Below.go (Below.go hB1 hb3) hb4⟩)
end Go.Proofs.YtbcpoohoclobpaaDoor
