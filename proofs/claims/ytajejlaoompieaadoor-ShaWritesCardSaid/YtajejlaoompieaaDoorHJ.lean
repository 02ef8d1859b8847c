/- The taking of a part into a Hash. -/
import Derived.Test.YtajejlaoompieaaDoorHI
import Derived.Test.YtajejlaoompieaaDoorHD
import Derived.Lib.Hide
import Derived.LoopN
import Derived.LoopTactic
import Derived.Deep.Onto
import Derived.Deep.QuietTactic
import Derived.Deep.WholeRow
namespace Go.Proofs.YtajejlaoompieaaDoor
set_option linter.unusedVariables false
set_option maxRecDepth 2000
set_option linter.unusedSimpArgs false
open Go.RowKit
attribute [local go_sem] nums_length
attribute [local go_sem ↓ high] sliced_one

set_option maxHeartbeats 8000000 in
theorem take_any (K m c n : Nat) (q : Option Addr) (g : Nat → Int) (hmc : m ≤ c) (hcx : c ≤ 9223372036854775807) (hnm : n + m ≤ 1000000) (hK0 : K ≠ 0) (hg : ∀ j, j < n + m → inB (g j)) (w : World) (hG : Has 0 0 (nums .u32 kC 64) w) (hK : Own K (stateH g n) w) (hb : BytN w q m (fun j => g (n + j)) K) :
    Calls Tryd.prog 31 #[.pointer (some ⟨K, 0, none⟩), .slice q m c] w fun e w' => e = .returned (.tuple #[]) ∧ Own K (stateH g (n + m)) w' ∧ But K w w' := by
  have HG := Lib.hid hG; have HK := Lib.hid hK; have HB := Lib.hid hb; have IG := Lib.hid hg
  have n0K : 0 ≠ K := Ne.symm hK0
  have BU := Lib.hid (But.refl K w)
  obtain ⟨T, eT⟩ : ∃ T, n + m = T := ⟨_, rfl⟩
  rw [eT] at IG hnm ⊢
  have HT := Lib.hid hnm
  have MC := Lib.hid hmc; have CX := Lib.hid hcx
  have ET := Lib.hid eT
  clear hG hK hb hg hnm hmc hcx eT
  go_enter Tryd.func31, Tryd.ntmps31
  go_wp2_with (fail)
  go_loopw [1] (fun v wr => ∃ (N L : Nat) (p : Option Addr) (c1 : Nat), N + L = T ∧ v = .slice p L c1 ∧ L ≤ c1 ∧ c1 ≤ 9223372036854775807 ∧ Hid (Own K (stateH g N) wr) ∧ Hid (BytN wr p L (fun j => g (N + j)) K) ∧ Hid (But K w wr)) (fun v _ => slLen v)
  case atStart => exact ⟨n, m, q, c, ET.out, rfl, MC.out, CX.out, HK, HB, BU⟩
  case round =>
    clear HK HB BU
    obtain ⟨N, L, p, c1, eNL, rfl, hLc, hcx, HK, HB, BU⟩ := hrel
    have HGr := Lib.hid (HG.out.but BU.out n0K)
    by_cases hL : 0 < L
    · obtain ⟨r, er⟩ : ∃ r, N % 64 = r := ⟨_, rfl⟩
      obtain ⟨d_, ed⟩ : ∃ d, 64 - r = d := ⟨_, rfl⟩
      obtain ⟨t, et⟩ : ∃ t, Nat.min L d_ = t := ⟨_, rfl⟩
      have hT := HT.out
      have hr : r < 64 := by omega
      have htL : t ≤ L := by rw [← et]; exact Nat.min_le_left _ _
      have htd : t ≤ d_ := by rw [← et]; exact Nat.min_le_right _ _
      have ht0 : 0 < t := by rw [← et]; exact Nat.lt_min.2 ⟨hL, by omega⟩
      have VN := Lib.hid (hash_n (chF g (N / 64)) (blkH g N) N)
      have g1 : decide (0 < L) = true := decide_eq_true hL
      have g2 : decide ((0 : Int) < (L : Int)) = true := decide_eq_true (by omega)
      have m1 : (N : Int).tmod 64 = (r : Int) := by rw [Int.tmod_eq_emod_of_nonneg (by omega)]; omega
      have m2 : (N : Int) % 64 = (r : Int) := by omega
      have wr1 : IntKind.i64.wrap (r : Int) = (r : Int) := IntWalk.i64_in _ (by omega)
      have r0 : (0 : Int) ≤ (r : Int) := by omega
      have r1 : (r : Int) ≤ 64 := by omega
      have rn : r ≤ 64 := by omega
      have rne : ¬ 64 = r := by omega
      have N0 : (0 : Int) ≤ (N : Int) := by omega
      go_upto_region 1 with fail
      have CP : Hid (∀ ty, (Builtin.copy_ #[23, 23] ty #[.slice (some ⟨K, 8 + r, none⟩) d_ d_, .slice p L c1]).run Tryd.prog wr.drew = .ok (.int .i64 (t : Int)) ((wr.drew).setCells K (8 + r) (nums .u8 (fun j => g (N + j)) t))) := Lib.hid fun ty => by
        obtain ⟨b, off, rfl, hbK, hbx⟩ := HB.out.resolve_left (by omega)
        have hx := has_take (m := t) hbx.drew htL
        exact copy_byt K (8 + r) b off d_ d_ L c1 t ty (fun j => g (N + j)) wr.drew et.symm hx (there_own HK.out.drew (by rw [stateH, hash_len]; omega))
      have HL := Lib.hid (show t ≤ L ∧ r + t ≤ 64 ∧ 0 < t by omega)
      refine wp_region_fun 12 (by kernel_rfl) (by kernel_rfl) rfl (fun s b => ⟨#[.pointer (some ⟨K, 0, none⟩), .slice p L c1, undef, undef, s 4, .slice p L c1, .int .i64 L, .bool true, s 8, s 9, s 10, s 11, s 12, s 13, s 14, s 15, s 16, s 17, s 18, u19, u20, u21, u22, u23, u24, u25, u26, u27, u28, u29, u30, u31, u32, u33, u34, u35, u36, u37, u38, u39, u40, u41, u42, u43, u44, u45, u46, u47, u48, u49, u50, u51], []⟩) (fun d s b w => (True) ∧ (d 0 = true → s 8 = .pointer (some ⟨K, 0, none⟩)) ∧ (d 1 = true → s 9 = .pointer (some ⟨K, 0, none⟩)) ∧ (d 2 = true → s 10 = .pointer (some ⟨K, 8, none⟩)) ∧ (d 3 = true → s 11 = .pointer (some ⟨K, 0, none⟩)) ∧ (d 4 = true → s 12 = .pointer (some ⟨K, 0, none⟩)) ∧ (d 5 = true → s 13 = .pointer (some ⟨K, 72, none⟩)) ∧ (d 6 = true → s 14 = .int .i64 N) ∧ (d 7 = true → s 15 = .int .i64 r) ∧ (d 8 = true → s 16 = .slice (some ⟨K, 8 + r, none⟩) d_ d_) ∧ (d 9 = true → s 17 = .slice p L c1) ∧ (d 10 = false → w = wr.drew) ∧ (d 10 = true → (s 18) = .int .i64 (t : Int) ∧ w = (wr.drew).setCells K (8 + r) (nums .u8 (fun j => g (N + j)) t)) ∧ (d 11 = true → s 4 = s 18) ∧ (d 7 = true → d 6 = true) ∧ (d 8 = true → d 7 = true) ∧ (d 10 = true → d 8 = true) ∧ (d 11 = true → d 10 = true)) rfl ?h0z1 (?stz1 : StepsF _ _ _ _ 12 _ _ [0, 1, 2, 3, 4, 5, 6, 7, 8, 9, 10, 11]) ?dnz1
      case h0z1 => exact ⟨trivial, (fun h => nomatch h), (fun h => nomatch h), (fun h => nomatch h), (fun h => nomatch h), (fun h => nomatch h), (fun h => nomatch h), (fun h => nomatch h), (fun h => nomatch h), (fun h => nomatch h), (fun h => nomatch h), (fun _ => rfl), (fun h => nomatch h), (fun h => nomatch h), (fun h => nomatch h), (fun h => nomatch h), (fun h => nomatch h), (fun h => nomatch h)⟩
      case stz1 =>
        refine StepsF.cons (o := _) rfl (ws := []) (by kernel_rfl) (by decide) (fun d s b w hF hd hw K_ hK => ?_) ?_
        · have hB : True := trivial
          dsimp only
          go_simp
          exact hK.out (ups s 8 (.pointer (some ⟨K, 0, none⟩))) b _ ⟨hB, (fun _ => rfl), (p2_ hF.out), (p3_ hF.out), (p4_ hF.out), (p5_ hF.out), (p6_ hF.out), (p7_ hF.out), (p8_ hF.out), (p9_ hF.out), (p10_ hF.out), (p11_ hF.out), (p12_ hF.out), (p13_ hF.out), (p14_ hF.out), (p15_ hF.out), (p16_ hF.out), (q17_ hF.out)⟩
        refine StepsF.cons (o := _) rfl (ws := [0]) (by kernel_rfl) (by decide) (fun d s b w hF hd hw K_ hK => ?_) ?_
        · have hB : True := trivial
          have e0 : s 8 = .pointer (some ⟨K, 0, none⟩) := (p1_ hF.out) (hw 0 (by decide))
          dsimp only
          go_simp
          exact hK.out (ups (ups s 8 (.pointer (some ⟨K, 0, none⟩))) 9 (.pointer (some ⟨K, 0, none⟩))) b _ ⟨hB, (fun _ => rfl), (fun _ => rfl), (p3_ hF.out), (p4_ hF.out), (p5_ hF.out), (p6_ hF.out), (p7_ hF.out), (p8_ hF.out), (p9_ hF.out), (p10_ hF.out), (p11_ hF.out), (p12_ hF.out), (p13_ hF.out), (p14_ hF.out), (p15_ hF.out), (p16_ hF.out), (q17_ hF.out)⟩
        refine StepsF.cons (o := _) rfl (ws := [1]) (by kernel_rfl) (by decide) (fun d s b w hF hd hw K_ hK => ?_) ?_
        · have hB : True := trivial
          have e1 : s 9 = .pointer (some ⟨K, 0, none⟩) := (p2_ hF.out) (hw 1 (by decide))
          dsimp only
          go_simp
          exact hK.out (ups (ups s 9 (.pointer (some ⟨K, 0, none⟩))) 10 (.pointer (some ⟨K, 8, none⟩))) b _ ⟨hB, (p1_ hF.out), (fun _ => rfl), (fun _ => rfl), (p4_ hF.out), (p5_ hF.out), (p6_ hF.out), (p7_ hF.out), (p8_ hF.out), (p9_ hF.out), (p10_ hF.out), (p11_ hF.out), (p12_ hF.out), (p13_ hF.out), (p14_ hF.out), (p15_ hF.out), (p16_ hF.out), (q17_ hF.out)⟩
        refine StepsF.cons (o := _) rfl (ws := []) (by kernel_rfl) (by decide) (fun d s b w hF hd hw K_ hK => ?_) ?_
        · have hB : True := trivial
          dsimp only
          go_simp
          exact hK.out (ups s 11 (.pointer (some ⟨K, 0, none⟩))) b _ ⟨hB, (p1_ hF.out), (p2_ hF.out), (p3_ hF.out), (fun _ => rfl), (p5_ hF.out), (p6_ hF.out), (p7_ hF.out), (p8_ hF.out), (p9_ hF.out), (p10_ hF.out), (p11_ hF.out), (p12_ hF.out), (p13_ hF.out), (p14_ hF.out), (p15_ hF.out), (p16_ hF.out), (q17_ hF.out)⟩
        refine StepsF.cons (o := _) rfl (ws := [3]) (by kernel_rfl) (by decide) (fun d s b w hF hd hw K_ hK => ?_) ?_
        · have hB : True := trivial
          have e3 : s 11 = .pointer (some ⟨K, 0, none⟩) := (p4_ hF.out) (hw 3 (by decide))
          dsimp only
          go_simp
          exact hK.out (ups (ups s 11 (.pointer (some ⟨K, 0, none⟩))) 12 (.pointer (some ⟨K, 0, none⟩))) b _ ⟨hB, (p1_ hF.out), (p2_ hF.out), (p3_ hF.out), (fun _ => rfl), (fun _ => rfl), (p6_ hF.out), (p7_ hF.out), (p8_ hF.out), (p9_ hF.out), (p10_ hF.out), (p11_ hF.out), (p12_ hF.out), (p13_ hF.out), (p14_ hF.out), (p15_ hF.out), (p16_ hF.out), (q17_ hF.out)⟩
        refine StepsF.cons (o := _) rfl (ws := [4]) (by kernel_rfl) (by decide) (fun d s b w hF hd hw K_ hK => ?_) ?_
        · have hB : True := trivial
          have e4 : s 12 = .pointer (some ⟨K, 0, none⟩) := (p5_ hF.out) (hw 4 (by decide))
          dsimp only
          go_simp
          exact hK.out (ups (ups s 12 (.pointer (some ⟨K, 0, none⟩))) 13 (.pointer (some ⟨K, 72, none⟩))) b _ ⟨hB, (p1_ hF.out), (p2_ hF.out), (p3_ hF.out), (p4_ hF.out), (fun _ => rfl), (fun _ => rfl), (p7_ hF.out), (p8_ hF.out), (p9_ hF.out), (p10_ hF.out), (p11_ hF.out), (p12_ hF.out), (p13_ hF.out), (p14_ hF.out), (p15_ hF.out), (p16_ hF.out), (q17_ hF.out)⟩
        refine StepsF.cons (o := _) rfl (ws := [5]) (by kernel_rfl) (by decide) (fun d s b w hF hd hw K_ hK => ?_) ?_
        · have hB : True := trivial
          have e5 : s 13 = .pointer (some ⟨K, 72, none⟩) := (p6_ hF.out) (hw 5 (by decide))
          dsimp only
          have h7 : d 7 = false := by cases e : d 7 with | false => rfl | true => exact absurd ((p14_ hF.out) e) (by simp [hd])
          have h8 : d 8 = false := by cases e : d 8 with | false => rfl | true => exact absurd ((p15_ hF.out) e) (by simp [h7])
          have h10 : d 10 = false := by cases e : d 10 with | false => rfl | true => exact absurd ((p16_ hF.out) e) (by simp [h8])
          have hq : w = wr.drew := (p11_ hF.out) h10
          have cX : w.cell? ⟨K, 72, none⟩ = some (.int .i64 (N : Int)) := by rw [hq]; exact HK.out.drew.at 72 _ VN.out
          clear hq
          go_simp
          exact hK.out (ups (ups s 13 (.pointer (some ⟨K, 72, none⟩))) 14 (.int .i64 N)) b _ ⟨hB, (p1_ hF.out), (p2_ hF.out), (p3_ hF.out), (p4_ hF.out), (p5_ hF.out), (fun _ => rfl), (fun _ => rfl), (p8_ hF.out), (p9_ hF.out), (p10_ hF.out), (p11_ hF.out), (p12_ hF.out), (p13_ hF.out), (fun _ => rfl), (p15_ hF.out), (p16_ hF.out), (q17_ hF.out)⟩
        refine StepsF.cons (o := _) rfl (ws := [6]) (by kernel_rfl) (by decide) (fun d s b w hF hd hw K_ hK => ?_) ?_
        · have hB : True := trivial
          have e6 : s 14 = .int .i64 N := (p7_ hF.out) (hw 6 (by decide))
          dsimp only
          go_simp
          exact hK.out (ups (ups s 14 (.int .i64 N)) 15 (.int .i64 r)) b _ ⟨hB, (p1_ hF.out), (p2_ hF.out), (p3_ hF.out), (p4_ hF.out), (p5_ hF.out), (p6_ hF.out), (fun _ => rfl), (fun _ => rfl), (p9_ hF.out), (p10_ hF.out), (p11_ hF.out), (p12_ hF.out), (p13_ hF.out), (fun _ => hw 6 (by decide)), (fun _ => rfl), (p16_ hF.out), (q17_ hF.out)⟩
        refine StepsF.cons (o := _) rfl (ws := [2, 7]) (by kernel_rfl) (by decide) (fun d s b w hF hd hw K_ hK => ?_) ?_
        · have hB : True := trivial
          have e2 : s 10 = .pointer (some ⟨K, 8, none⟩) := (p3_ hF.out) (hw 2 (by decide))
          have e7 : s 15 = .int .i64 r := (p8_ hF.out) (hw 7 (by decide))
          dsimp only
          go_simp
          exact hK.out (ups (ups (ups s 10 (.pointer (some ⟨K, 8, none⟩))) 15 (.int .i64 r)) 16 (.slice (some ⟨K, 8 + r, none⟩) d_ d_)) b _ ⟨hB, (p1_ hF.out), (p2_ hF.out), (fun _ => rfl), (p4_ hF.out), (p5_ hF.out), (p6_ hF.out), (p7_ hF.out), (fun _ => rfl), (fun _ => rfl), (p10_ hF.out), (p11_ hF.out), (p12_ hF.out), (p13_ hF.out), (p14_ hF.out), (fun _ => hw 7 (by decide)), (fun _ => rfl), (q17_ hF.out)⟩
        refine StepsF.cons (o := _) rfl (ws := []) (by kernel_rfl) (by decide) (fun d s b w hF hd hw K_ hK => ?_) ?_
        · have hB : True := trivial
          dsimp only
          go_simp
          exact hK.out (ups s 17 (.slice p L c1)) b _ ⟨hB, (p1_ hF.out), (p2_ hF.out), (p3_ hF.out), (p4_ hF.out), (p5_ hF.out), (p6_ hF.out), (p7_ hF.out), (p8_ hF.out), (p9_ hF.out), (fun _ => rfl), (p11_ hF.out), (p12_ hF.out), (p13_ hF.out), (p14_ hF.out), (p15_ hF.out), (p16_ hF.out), (q17_ hF.out)⟩
        refine StepsF.cons (o := _) rfl (ws := [8, 9]) (by kernel_rfl) (by decide) (fun d s b w hF hd hw K_ hK => ?_) ?_
        · have hB : True := trivial
          have e8 : s 16 = .slice (some ⟨K, 8 + r, none⟩) d_ d_ := (p9_ hF.out) (hw 8 (by decide))
          have e9 : s 17 = .slice p L c1 := (p10_ hF.out) (hw 9 (by decide))
          have hq : w = wr.drew := (p11_ hF.out) hd
          subst hq
          obtain ⟨v', hv'⟩ : ∃ v', v' = Value.int .i64 (t : Int) := ⟨_, rfl⟩
          have hrel : v' = .int .i64 (t : Int) ∧ (wr.drew).setCells K (8 + r) (nums .u8 (fun j => g (N + j)) t) = (wr.drew).setCells K (8 + r) (nums .u8 (fun j => g (N + j)) t) := ⟨hv', rfl⟩
          refine step_copy rfl (.tmp 16) (.tmp 17) 23 rfl ?a1 ?a2 (hv' ▸ CP.out _) ?_
          case a1 => exact e8
          case a2 => exact e9
          exact hK.out (ups s 18 (v')) b _ ⟨hB, (p1_ hF.out), (p2_ hF.out), (p3_ hF.out), (p4_ hF.out), (p5_ hF.out), (p6_ hF.out), (p7_ hF.out), (p8_ hF.out), (p9_ hF.out), (p10_ hF.out), (fun h => nomatch h), (fun _ => hrel), (fun h => absurd ((q17_ hF.out) h) (by simp [hd])), (p14_ hF.out), (p15_ hF.out), (fun _ => hw 8 (by decide)), (fun _ => rfl)⟩
        refine StepsF.cons (o := _) rfl (ws := [10, 10, 0, 1, 2, 3, 4, 5, 6, 7, 8, 9, 10]) (by kernel_rfl) (by decide) (fun d s b w hF hd hw K_ hK => ?_) ?_
        · have hB : True := trivial
          have e0 : s 8 = .pointer (some ⟨K, 0, none⟩) := (p1_ hF.out) (hw 0 (by decide))
          have e1 : s 9 = .pointer (some ⟨K, 0, none⟩) := (p2_ hF.out) (hw 1 (by decide))
          have e2 : s 10 = .pointer (some ⟨K, 8, none⟩) := (p3_ hF.out) (hw 2 (by decide))
          have e3 : s 11 = .pointer (some ⟨K, 0, none⟩) := (p4_ hF.out) (hw 3 (by decide))
          have e4 : s 12 = .pointer (some ⟨K, 0, none⟩) := (p5_ hF.out) (hw 4 (by decide))
          have e5 : s 13 = .pointer (some ⟨K, 72, none⟩) := (p6_ hF.out) (hw 5 (by decide))
          have e6 : s 14 = .int .i64 N := (p7_ hF.out) (hw 6 (by decide))
          have e7 : s 15 = .int .i64 r := (p8_ hF.out) (hw 7 (by decide))
          have e8 : s 16 = .slice (some ⟨K, 8 + r, none⟩) d_ d_ := (p9_ hF.out) (hw 8 (by decide))
          have e9 : s 17 = .slice p L c1 := (p10_ hF.out) (hw 9 (by decide))
          dsimp only
          go_simp
          exact hK.out (ups (ups (ups (ups (ups (ups (ups (ups (ups (ups (ups s 8 (.pointer (some ⟨K, 0, none⟩))) 9 (.pointer (some ⟨K, 0, none⟩))) 10 (.pointer (some ⟨K, 8, none⟩))) 11 (.pointer (some ⟨K, 0, none⟩))) 12 (.pointer (some ⟨K, 0, none⟩))) 13 (.pointer (some ⟨K, 72, none⟩))) 14 (.int .i64 N)) 15 (.int .i64 r)) 16 (.slice (some ⟨K, 8 + r, none⟩) d_ d_)) 17 (.slice p L c1)) 4 (s 18)) b _ ⟨hB, (fun _ => rfl), (fun _ => rfl), (fun _ => rfl), (fun _ => rfl), (fun _ => rfl), (fun _ => rfl), (fun _ => rfl), (fun _ => rfl), (fun _ => rfl), (fun _ => rfl), (p11_ hF.out), (p12_ hF.out), (fun _ => rfl), (p14_ hF.out), (p15_ hF.out), (p16_ hF.out), (fun _ => hw 10 (by decide))⟩
        exact StepsF.nil
      intro d s b z1 hF hall
      replace hF := Lib.hid hF
      have hB : True := trivial
      try dsimp only
      have e0 : s 8 = .pointer (some ⟨K, 0, none⟩) := (p1_ hF.out) (hall 0 (by decide))
      have e1 : s 9 = .pointer (some ⟨K, 0, none⟩) := (p2_ hF.out) (hall 1 (by decide))
      have e2 : s 10 = .pointer (some ⟨K, 8, none⟩) := (p3_ hF.out) (hall 2 (by decide))
      have e3 : s 11 = .pointer (some ⟨K, 0, none⟩) := (p4_ hF.out) (hall 3 (by decide))
      have e4 : s 12 = .pointer (some ⟨K, 0, none⟩) := (p5_ hF.out) (hall 4 (by decide))
      have e5 : s 13 = .pointer (some ⟨K, 72, none⟩) := (p6_ hF.out) (hall 5 (by decide))
      have e6 : s 14 = .int .i64 N := (p7_ hF.out) (hall 6 (by decide))
      have e7 : s 15 = .int .i64 r := (p8_ hF.out) (hall 7 (by decide))
      have e8 : s 16 = .slice (some ⟨K, 8 + r, none⟩) d_ d_ := (p9_ hF.out) (hall 8 (by decide))
      have e9 : s 17 = .slice p L c1 := (p10_ hF.out) (hall 9 (by decide))
      have f10 := (p12_ hF.out) (hall 10 (by decide))
      have e11 : s 4 = s 18 := (p13_ hF.out) (hall 11 (by decide))
      rw [e0, e1, e2, e3, e4, e5, e6, e7, e8, e9, e11]
      clear hall hF e0 e1 e2 e3 e4 e5 e6 e7 e8 e9 e11
      obtain ⟨u1_, hz⟩ : ∃ x, x = s 18 := ⟨_, rfl⟩
      rw [← hz] at f10 ⊢
      clear hz
      clear d s b
      obtain ⟨ez1, ez2⟩ := f10
      subst ez1
      have KL := HK.out.lt
      have B1 := (But.drew (K := K) KL).trans (But.store (K := K) (o := 8 + r) (a := wr.drew) (vs := nums .u8 (fun j => g (N + j)) t))
      have HKn := Lib.hid (show Own K (hashC (chF g (N / 64)) (laidB (blkH g N) (fun j => g (N + j)) r t) N) z1 from ez2 ▸ own_some HK.out.drew HL.out.2.1)
      have HBn := Lib.hid (show BytN z1 p L (fun j => g (N + j)) K from ez2 ▸ HB.out.but B1)
      have BUn := Lib.hid (show But K w z1 from ez2 ▸ BU.out.trans B1)
      have HGn := Lib.hid (HG.out.but BUn.out n0K)
      clear HK HB BU HGr CP VN B1 KL ez2 hB
      have HK := HKn; have HB := HBn; have BU := BUn; have HGr := HGn
      clear HKn HBn BUn HGn
      obtain ⟨bf, ebf⟩ : ∃ bf, laidB (blkH g N) (fun j => g (N + j)) r t = bf := ⟨_, rfl⟩
      obtain ⟨vf, evf⟩ : ∃ vf, chF g (N / 64) = vf := ⟨_, rfl⟩
      have EBF := Lib.hid ebf; have EVF := Lib.hid evf
      have IBF := Lib.hid (show ∀ j, j < 64 → inB (bf j) from ebf ▸ in_laidB (fun j _ => in_blkH (fun j hj => IG.out j (by omega)) j) (fun j hj => IG.out (N + j) (by have := HL.out; omega)))
      have IVF := Lib.hid (show ∀ j, j < 8 → in32 (vf j) from evf ▸ fun j _ => in_chF g _ j)
      rw [ebf, evf] at HK
      clear ebf evf
      obtain ⟨M, eM⟩ : ∃ M, N + t = M := ⟨_, rfl⟩
      have k72 := HK.out.at 72 _ (hash_n vf bf N)
      have f72 := HK.out.ok 72 (by rw [hash_len]; decide)
      have Kl := HK.out.lt
      have s1 : (N : Int) + (t : Int) = (M : Int) := by omega
      have wM : IntKind.i64.wrap (M : Int) = (M : Int) := IntWalk.i64_in _ (by omega)
      have t0i : (0 : Int) ≤ (t : Int) := by omega
      have tLi : (t : Int) ≤ (L : Int) := by omega
      have Lci : (L : Int) ≤ (c1 : Int) := by omega
      have M0 : (0 : Int) ≤ (M : Int) := by omega
      have B2 := But.store (K := K) (o := 72) (a := z1) (vs := [.int .i64 (M : Int)])
      have HK2 := Lib.hid (own_n (m := M) HK.out)
      have HB2 := Lib.hid (bytN_drop (l := t) (c := c1) (HB.out.but B2) htL hLc)
      have BU2 := Lib.hid (BU.out.trans B2)
      have HG2 := Lib.hid (HG.out.but BU2.out n0K)
      obtain ⟨p2, ep2⟩ : ∃ p2, slq p t c1 = p2 := ⟨_, rfl⟩
      rw [ep2] at HB2
      have ep3 : (if c1 = t then p else Option.map (fun x => x.add t) p) = p2 := ep2
      clear ep2
      obtain ⟨L2, eL2⟩ : ∃ L2, L - t = L2 := ⟨_, rfl⟩
      obtain ⟨c2, ec2⟩ : ∃ c2, c1 - t = c2 := ⟨_, rfl⟩
      rw [eL2] at HB2
      have HB3 : Hid (BytN (z1.setCells K 72 [.int .i64 (M : Int)]) p2 L2 (fun j => g (M + j)) K) := Lib.hid (by
        have := HB2.out
        simp only [← Nat.add_assoc] at this
        rw [eM] at this
        exact this)
      have NL2 := Lib.hid (show M + L2 = T ∧ L2 ≤ c2 ∧ c2 ≤ 9223372036854775807 ∧ L2 < L by have := HL.out; omega)
      have ST := Lib.hid (show r = N % 64 ∧ M = N + t from ⟨er.symm, eM.symm⟩)
      clear HB HB2 HK BU HGr er ed et eM g1 g2 m1 m2 wr1 r0 r1 rn rne N0 hL hLc hcx eNL htd hT
      by_cases hfull : r + t = 64
      · have m3 : (M : Int).tmod 64 = 0 := by have := ST.out; rw [Int.tmod_eq_emod_of_nonneg (by omega)]; omega
        have m3' : (M : Int) % 64 = 0 := by have := ST.out; omega
        have FU := Lib.hid hfull
        clear hfull hr ht0 htL
        go_upto_region 5 with fail
        rw [show z1.setCell ⟨K, 72, none⟩ (.int .i64 (M : Int)) = z1.setCells K 72 [.int .i64 (M : Int)] from rfl]
        clear k72 f72
        generalize (z1.setCells K 72 [.int .i64 (M : Int)]) = z2 at *
        obtain ⟨cf, ecf⟩ : ∃ cf, compF kC vf bf = cf := ⟨_, rfl⟩
        have CC := Lib.hid (fun w h => ecf ▸ Compress_any vf bf IVF.out IBF.out w h)
        have ECF := Lib.hid ecf
        clear ecf
        refine wp_region_fun 13 (by kernel_rfl) (by kernel_rfl) rfl (fun s b => ⟨#[.pointer (some ⟨K, 0, none⟩), .slice p2 L2 c2, undef, undef, .int .i64 t, .slice p L c1, .int .i64 L, .bool true, .pointer (some ⟨K, 0, none⟩), .pointer (some ⟨K, 0, none⟩), .pointer (some ⟨K, 8, none⟩), .pointer (some ⟨K, 0, none⟩), .pointer (some ⟨K, 0, none⟩), .pointer (some ⟨K, 72, none⟩), .int .i64 N, .int .i64 r, .slice (some ⟨K, 8 + r, none⟩) d_ d_, .slice p L c1, .int .i64 t, .slice p L c1, .int .i64 t, .slice p2 L2 c2, .pointer (some ⟨K, 0, none⟩), .pointer (some ⟨K, 0, none⟩), .pointer (some ⟨K, 72, none⟩), .int .i64 N, .int .i64 t, .int .i64 M, .pointer (some ⟨K, 0, none⟩), .pointer (some ⟨K, 72, none⟩), .pointer (some ⟨K, 0, none⟩), .pointer (some ⟨K, 0, none⟩), .pointer (some ⟨K, 72, none⟩), .int .i64 M, .int .i64 0, .bool true, s 36, s 37, s 38, s 39, s 40, s 41, s 42, s 43, s 44, s 45, s 46, s 47, u48, u49, u50, u51], []⟩) (fun d s b w => (d 12 = false → Below z2.heap.size z2 w) ∧ (d 0 = true → s 36 = .pointer (some ⟨K, 0, none⟩)) ∧ (d 1 = true → s 37 = .pointer (some ⟨K, 0, none⟩)) ∧ (d 2 = true → s 38 = .pointer (some ⟨K, 0, none⟩)) ∧ (d 3 = true → s 39 = .pointer (some ⟨K, 0, none⟩)) ∧ (d 4 = true → s 40 = (.agg (nums .u32 vf 8).toArray)) ∧ (d 5 = true → s 41 = .pointer (some ⟨K, 0, none⟩)) ∧ (d 6 = true → s 42 = .pointer (some ⟨K, 0, none⟩)) ∧ (d 7 = true → s 43 = .pointer (some ⟨K, 8, none⟩)) ∧ (d 8 = true → s 44 = (.agg (nums .u8 bf 64).toArray)) ∧ (d 9 = true → s 45 = (.agg (nums .u32 cf 8).toArray)) ∧ (d 10 = true → s 46 = .pointer (some ⟨K, 0, none⟩)) ∧ (d 11 = true → s 47 = .pointer (some ⟨K, 0, none⟩)) ∧ (d 12 = true → ∀ j, j < 12 → d j = true) ∧ (d 12 = true → ∃ w2, Below z2.heap.size z2 w2 ∧ w = w2.setCells K 0 (nums .u32 cf 8)) ∧ (d 11 = true → d 10 = true)) rfl ?h0z3 (?stz3 : StepsF _ _ _ _ 13 _ _ [0, 1, 2, 3, 4, 5, 6, 7, 8, 9, 10, 11, 12]) ?dnz3
        case h0z3 => exact ⟨fun _ => Below.drew (Below.refl _ _), (fun h => nomatch h), (fun h => nomatch h), (fun h => nomatch h), (fun h => nomatch h), (fun h => nomatch h), (fun h => nomatch h), (fun h => nomatch h), (fun h => nomatch h), (fun h => nomatch h), (fun h => nomatch h), (fun h => nomatch h), (fun h => nomatch h), (fun h => nomatch h), (fun h => nomatch h), (fun h => nomatch h)⟩
        case stz3 =>
          refine StepsF.cons (o := _) rfl (ws := []) (by kernel_rfl) (by decide) (fun d s b w hF hd hw K_ hK => ?_) ?_
          · have hk : d 12 = false := by cases e : d 12 with | false => rfl | true => exact absurd ((p13_ hF.out) e 0 (by decide)) (by simp [hd])
            have hB : Below z2.heap.size z2 w := (p0_ hF.out) hk
            dsimp only
            go_simp
            exact hK.out (ups s 36 (.pointer (some ⟨K, 0, none⟩))) b _ ⟨(fun _ => hB), (fun _ => rfl), (p2_ hF.out), (p3_ hF.out), (p4_ hF.out), (p5_ hF.out), (p6_ hF.out), (p7_ hF.out), (p8_ hF.out), (p9_ hF.out), (p10_ hF.out), (p11_ hF.out), (p12_ hF.out), (fun h => absurd ((p13_ hF.out) h 0 (by decide)) (by simp [hd])), (fun h => absurd ((p13_ hF.out) h 0 (by decide)) (by simp [hd])), (q15_ hF.out)⟩
          refine StepsF.cons (o := _) rfl (ws := []) (by kernel_rfl) (by decide) (fun d s b w hF hd hw K_ hK => ?_) ?_
          · have hk : d 12 = false := by cases e : d 12 with | false => rfl | true => exact absurd ((p13_ hF.out) e 1 (by decide)) (by simp [hd])
            have hB : Below z2.heap.size z2 w := (p0_ hF.out) hk
            dsimp only
            go_simp
            exact hK.out (ups s 37 (.pointer (some ⟨K, 0, none⟩))) b _ ⟨(fun _ => hB), (p1_ hF.out), (fun _ => rfl), (p3_ hF.out), (p4_ hF.out), (p5_ hF.out), (p6_ hF.out), (p7_ hF.out), (p8_ hF.out), (p9_ hF.out), (p10_ hF.out), (p11_ hF.out), (p12_ hF.out), (fun h => absurd ((p13_ hF.out) h 1 (by decide)) (by simp [hd])), (fun h => absurd ((p13_ hF.out) h 1 (by decide)) (by simp [hd])), (q15_ hF.out)⟩
          refine StepsF.cons (o := _) rfl (ws := [1]) (by kernel_rfl) (by decide) (fun d s b w hF hd hw K_ hK => ?_) ?_
          · have hk : d 12 = false := by cases e : d 12 with | false => rfl | true => exact absurd ((p13_ hF.out) e 2 (by decide)) (by simp [hd])
            have hB : Below z2.heap.size z2 w := (p0_ hF.out) hk
            have e1 : s 37 = .pointer (some ⟨K, 0, none⟩) := (p2_ hF.out) (hw 1 (by decide))
            dsimp only
            go_simp
            exact hK.out (ups (ups s 37 (.pointer (some ⟨K, 0, none⟩))) 38 (.pointer (some ⟨K, 0, none⟩))) b _ ⟨(fun _ => hB), (p1_ hF.out), (fun _ => rfl), (fun _ => rfl), (p4_ hF.out), (p5_ hF.out), (p6_ hF.out), (p7_ hF.out), (p8_ hF.out), (p9_ hF.out), (p10_ hF.out), (p11_ hF.out), (p12_ hF.out), (fun h => absurd ((p13_ hF.out) h 2 (by decide)) (by simp [hd])), (fun h => absurd ((p13_ hF.out) h 2 (by decide)) (by simp [hd])), (q15_ hF.out)⟩
          refine StepsF.cons (o := _) rfl (ws := [2]) (by kernel_rfl) (by decide) (fun d s b w hF hd hw K_ hK => ?_) ?_
          · have hk : d 12 = false := by cases e : d 12 with | false => rfl | true => exact absurd ((p13_ hF.out) e 3 (by decide)) (by simp [hd])
            have hB : Below z2.heap.size z2 w := (p0_ hF.out) hk
            have e2 : s 38 = .pointer (some ⟨K, 0, none⟩) := (p3_ hF.out) (hw 2 (by decide))
            dsimp only
            go_simp
            exact hK.out (ups (ups s 38 (.pointer (some ⟨K, 0, none⟩))) 39 (.pointer (some ⟨K, 0, none⟩))) b _ ⟨(fun _ => hB), (p1_ hF.out), (p2_ hF.out), (fun _ => rfl), (fun _ => rfl), (p5_ hF.out), (p6_ hF.out), (p7_ hF.out), (p8_ hF.out), (p9_ hF.out), (p10_ hF.out), (p11_ hF.out), (p12_ hF.out), (fun h => absurd ((p13_ hF.out) h 3 (by decide)) (by simp [hd])), (fun h => absurd ((p13_ hF.out) h 3 (by decide)) (by simp [hd])), (q15_ hF.out)⟩
          refine StepsF.cons (o := _) rfl (ws := [3]) (by kernel_rfl) (by decide) (fun d s b w hF hd hw K_ hK => ?_) ?_
          · have hk : d 12 = false := by cases e : d 12 with | false => rfl | true => exact absurd ((p13_ hF.out) e 4 (by decide)) (by simp [hd])
            have hB : Below z2.heap.size z2 w := (p0_ hF.out) hk
            have e3 : s 39 = .pointer (some ⟨K, 0, none⟩) := (p4_ hF.out) (hw 3 (by decide))
            refine step_load (by simp [Region.wanted]) 28 _ rfl K 0 e3 (nums .u32 vf 8) _ (has_val (HK2.out.later hB)).cell Tryd.underlying28 rfl (by kernel_rfl) ?_
            exact hK.out (ups s 40 ((.agg (nums .u32 vf 8).toArray))) b _ ⟨(fun _ => hB), (p1_ hF.out), (p2_ hF.out), (p3_ hF.out), (p4_ hF.out), (fun _ => rfl), (p6_ hF.out), (p7_ hF.out), (p8_ hF.out), (p9_ hF.out), (p10_ hF.out), (p11_ hF.out), (p12_ hF.out), (fun h => absurd ((p13_ hF.out) h 4 (by decide)) (by simp [hd])), (fun h => absurd ((p13_ hF.out) h 4 (by decide)) (by simp [hd])), (q15_ hF.out)⟩
          refine StepsF.cons (o := _) rfl (ws := []) (by kernel_rfl) (by decide) (fun d s b w hF hd hw K_ hK => ?_) ?_
          · have hk : d 12 = false := by cases e : d 12 with | false => rfl | true => exact absurd ((p13_ hF.out) e 5 (by decide)) (by simp [hd])
            have hB : Below z2.heap.size z2 w := (p0_ hF.out) hk
            dsimp only
            go_simp
            exact hK.out (ups s 41 (.pointer (some ⟨K, 0, none⟩))) b _ ⟨(fun _ => hB), (p1_ hF.out), (p2_ hF.out), (p3_ hF.out), (p4_ hF.out), (p5_ hF.out), (fun _ => rfl), (p7_ hF.out), (p8_ hF.out), (p9_ hF.out), (p10_ hF.out), (p11_ hF.out), (p12_ hF.out), (fun h => absurd ((p13_ hF.out) h 5 (by decide)) (by simp [hd])), (fun h => absurd ((p13_ hF.out) h 5 (by decide)) (by simp [hd])), (q15_ hF.out)⟩
          refine StepsF.cons (o := _) rfl (ws := [5]) (by kernel_rfl) (by decide) (fun d s b w hF hd hw K_ hK => ?_) ?_
          · have hk : d 12 = false := by cases e : d 12 with | false => rfl | true => exact absurd ((p13_ hF.out) e 6 (by decide)) (by simp [hd])
            have hB : Below z2.heap.size z2 w := (p0_ hF.out) hk
            have e5 : s 41 = .pointer (some ⟨K, 0, none⟩) := (p6_ hF.out) (hw 5 (by decide))
            dsimp only
            go_simp
            exact hK.out (ups (ups s 41 (.pointer (some ⟨K, 0, none⟩))) 42 (.pointer (some ⟨K, 0, none⟩))) b _ ⟨(fun _ => hB), (p1_ hF.out), (p2_ hF.out), (p3_ hF.out), (p4_ hF.out), (p5_ hF.out), (fun _ => rfl), (fun _ => rfl), (p8_ hF.out), (p9_ hF.out), (p10_ hF.out), (p11_ hF.out), (p12_ hF.out), (fun h => absurd ((p13_ hF.out) h 6 (by decide)) (by simp [hd])), (fun h => absurd ((p13_ hF.out) h 6 (by decide)) (by simp [hd])), (q15_ hF.out)⟩
          refine StepsF.cons (o := _) rfl (ws := [6]) (by kernel_rfl) (by decide) (fun d s b w hF hd hw K_ hK => ?_) ?_
          · have hk : d 12 = false := by cases e : d 12 with | false => rfl | true => exact absurd ((p13_ hF.out) e 7 (by decide)) (by simp [hd])
            have hB : Below z2.heap.size z2 w := (p0_ hF.out) hk
            have e6 : s 42 = .pointer (some ⟨K, 0, none⟩) := (p7_ hF.out) (hw 6 (by decide))
            dsimp only
            go_simp
            exact hK.out (ups (ups s 42 (.pointer (some ⟨K, 0, none⟩))) 43 (.pointer (some ⟨K, 8, none⟩))) b _ ⟨(fun _ => hB), (p1_ hF.out), (p2_ hF.out), (p3_ hF.out), (p4_ hF.out), (p5_ hF.out), (p6_ hF.out), (fun _ => rfl), (fun _ => rfl), (p9_ hF.out), (p10_ hF.out), (p11_ hF.out), (p12_ hF.out), (fun h => absurd ((p13_ hF.out) h 7 (by decide)) (by simp [hd])), (fun h => absurd ((p13_ hF.out) h 7 (by decide)) (by simp [hd])), (q15_ hF.out)⟩
          refine StepsF.cons (o := _) rfl (ws := [7]) (by kernel_rfl) (by decide) (fun d s b w hF hd hw K_ hK => ?_) ?_
          · have hk : d 12 = false := by cases e : d 12 with | false => rfl | true => exact absurd ((p13_ hF.out) e 8 (by decide)) (by simp [hd])
            have hB : Below z2.heap.size z2 w := (p0_ hF.out) hk
            have e7 : s 43 = .pointer (some ⟨K, 8, none⟩) := (p8_ hF.out) (hw 7 (by decide))
            refine step_load (by simp [Region.wanted]) 29 _ rfl K 8 e7 (nums .u8 bf 64) _ (has_blk (HK2.out.later hB)).cell Tryd.underlying29 rfl (by kernel_rfl) ?_
            exact hK.out (ups s 44 ((.agg (nums .u8 bf 64).toArray))) b _ ⟨(fun _ => hB), (p1_ hF.out), (p2_ hF.out), (p3_ hF.out), (p4_ hF.out), (p5_ hF.out), (p6_ hF.out), (p7_ hF.out), (p8_ hF.out), (fun _ => rfl), (p10_ hF.out), (p11_ hF.out), (p12_ hF.out), (fun h => absurd ((p13_ hF.out) h 8 (by decide)) (by simp [hd])), (fun h => absurd ((p13_ hF.out) h 8 (by decide)) (by simp [hd])), (q15_ hF.out)⟩
          refine StepsF.cons (o := _) rfl (ws := [4, 8]) (by kernel_rfl) (by decide) (fun d s b w hF hd hw K_ hK => ?_) ?_
          · have hk : d 12 = false := by cases e : d 12 with | false => rfl | true => exact absurd ((p13_ hF.out) e 9 (by decide)) (by simp [hd])
            have hB : Below z2.heap.size z2 w := (p0_ hF.out) hk
            have e4 : s 40 = (.agg (nums .u32 vf 8).toArray) := (p5_ hF.out) (hw 4 (by decide))
            have e8 : s 44 = (.agg (nums .u8 bf 64).toArray) := (p9_ hF.out) (hw 8 (by decide))
            dsimp only
            go_simp
            go_at_call 14
            refine (CC.out _ (HG2.out.later hB)).mono ?_
            rintro e w1 ⟨rfl, hb⟩
            exact hK.out (ups (ups (ups s 40 ((.agg (nums .u32 vf 8).toArray))) 44 ((.agg (nums .u8 bf 64).toArray))) 45 ((.agg (nums .u32 cf 8).toArray))) b _ ⟨(fun _ => (Below.go hB hb)), (p1_ hF.out), (p2_ hF.out), (p3_ hF.out), (p4_ hF.out), (fun _ => rfl), (p6_ hF.out), (p7_ hF.out), (p8_ hF.out), (fun _ => rfl), (fun _ => rfl), (p11_ hF.out), (p12_ hF.out), (fun h => absurd ((p13_ hF.out) h 9 (by decide)) (by simp [hd])), (fun h => absurd ((p13_ hF.out) h 9 (by decide)) (by simp [hd])), (q15_ hF.out)⟩
          refine StepsF.cons (o := _) rfl (ws := [0, 0, 1, 2, 3, 4, 5, 6, 7, 8, 9]) (by kernel_rfl) (by decide) (fun d s b w hF hd hw K_ hK => ?_) ?_
          · have hk : d 12 = false := by cases e : d 12 with | false => rfl | true => exact absurd ((p13_ hF.out) e 10 (by decide)) (by simp [hd])
            have hB : Below z2.heap.size z2 w := (p0_ hF.out) hk
            have e0 : s 36 = .pointer (some ⟨K, 0, none⟩) := (p1_ hF.out) (hw 0 (by decide))
            have e1 : s 37 = .pointer (some ⟨K, 0, none⟩) := (p2_ hF.out) (hw 1 (by decide))
            have e2 : s 38 = .pointer (some ⟨K, 0, none⟩) := (p3_ hF.out) (hw 2 (by decide))
            have e3 : s 39 = .pointer (some ⟨K, 0, none⟩) := (p4_ hF.out) (hw 3 (by decide))
            have e4 : s 40 = (.agg (nums .u32 vf 8).toArray) := (p5_ hF.out) (hw 4 (by decide))
            have e5 : s 41 = .pointer (some ⟨K, 0, none⟩) := (p6_ hF.out) (hw 5 (by decide))
            have e6 : s 42 = .pointer (some ⟨K, 0, none⟩) := (p7_ hF.out) (hw 6 (by decide))
            have e7 : s 43 = .pointer (some ⟨K, 8, none⟩) := (p8_ hF.out) (hw 7 (by decide))
            have e8 : s 44 = (.agg (nums .u8 bf 64).toArray) := (p9_ hF.out) (hw 8 (by decide))
            have e9 : s 45 = (.agg (nums .u32 cf 8).toArray) := (p10_ hF.out) (hw 9 (by decide))
            dsimp only
            go_simp
            exact hK.out (ups (ups (ups (ups (ups (ups (ups (ups (ups (ups (ups s 36 (.pointer (some ⟨K, 0, none⟩))) 37 (.pointer (some ⟨K, 0, none⟩))) 38 (.pointer (some ⟨K, 0, none⟩))) 39 (.pointer (some ⟨K, 0, none⟩))) 40 ((.agg (nums .u32 vf 8).toArray))) 41 (.pointer (some ⟨K, 0, none⟩))) 42 (.pointer (some ⟨K, 0, none⟩))) 43 (.pointer (some ⟨K, 8, none⟩))) 44 ((.agg (nums .u8 bf 64).toArray))) 45 ((.agg (nums .u32 cf 8).toArray))) 46 (.pointer (some ⟨K, 0, none⟩))) b _ ⟨(fun _ => hB), (fun _ => rfl), (fun _ => rfl), (fun _ => rfl), (fun _ => rfl), (fun _ => rfl), (fun _ => rfl), (fun _ => rfl), (fun _ => rfl), (fun _ => rfl), (fun _ => rfl), (fun _ => rfl), (p12_ hF.out), (fun h => absurd ((p13_ hF.out) h 10 (by decide)) (by simp [hd])), (fun h => absurd ((p13_ hF.out) h 10 (by decide)) (by simp [hd])), (fun _ => rfl)⟩
          refine StepsF.cons (o := _) rfl (ws := [10, 0, 1, 2, 3, 4, 5, 6, 7, 8, 9]) (by kernel_rfl) (by decide) (fun d s b w hF hd hw K_ hK => ?_) ?_
          · have hk : d 12 = false := by cases e : d 12 with | false => rfl | true => exact absurd ((p13_ hF.out) e 11 (by decide)) (by simp [hd])
            have hB : Below z2.heap.size z2 w := (p0_ hF.out) hk
            have e0 : s 36 = .pointer (some ⟨K, 0, none⟩) := (p1_ hF.out) (hw 0 (by decide))
            have e1 : s 37 = .pointer (some ⟨K, 0, none⟩) := (p2_ hF.out) (hw 1 (by decide))
            have e2 : s 38 = .pointer (some ⟨K, 0, none⟩) := (p3_ hF.out) (hw 2 (by decide))
            have e3 : s 39 = .pointer (some ⟨K, 0, none⟩) := (p4_ hF.out) (hw 3 (by decide))
            have e4 : s 40 = (.agg (nums .u32 vf 8).toArray) := (p5_ hF.out) (hw 4 (by decide))
            have e5 : s 41 = .pointer (some ⟨K, 0, none⟩) := (p6_ hF.out) (hw 5 (by decide))
            have e6 : s 42 = .pointer (some ⟨K, 0, none⟩) := (p7_ hF.out) (hw 6 (by decide))
            have e7 : s 43 = .pointer (some ⟨K, 8, none⟩) := (p8_ hF.out) (hw 7 (by decide))
            have e8 : s 44 = (.agg (nums .u8 bf 64).toArray) := (p9_ hF.out) (hw 8 (by decide))
            have e9 : s 45 = (.agg (nums .u32 cf 8).toArray) := (p10_ hF.out) (hw 9 (by decide))
            have e10 : s 46 = .pointer (some ⟨K, 0, none⟩) := (p11_ hF.out) (hw 10 (by decide))
            dsimp only
            go_simp
            exact hK.out (ups (ups (ups (ups (ups (ups (ups (ups (ups (ups (ups (ups s 36 (.pointer (some ⟨K, 0, none⟩))) 37 (.pointer (some ⟨K, 0, none⟩))) 38 (.pointer (some ⟨K, 0, none⟩))) 39 (.pointer (some ⟨K, 0, none⟩))) 40 ((.agg (nums .u32 vf 8).toArray))) 41 (.pointer (some ⟨K, 0, none⟩))) 42 (.pointer (some ⟨K, 0, none⟩))) 43 (.pointer (some ⟨K, 8, none⟩))) 44 ((.agg (nums .u8 bf 64).toArray))) 45 ((.agg (nums .u32 cf 8).toArray))) 46 (.pointer (some ⟨K, 0, none⟩))) 47 (.pointer (some ⟨K, 0, none⟩))) b _ ⟨(fun _ => hB), (fun _ => rfl), (fun _ => rfl), (fun _ => rfl), (fun _ => rfl), (fun _ => rfl), (fun _ => rfl), (fun _ => rfl), (fun _ => rfl), (fun _ => rfl), (fun _ => rfl), (fun _ => rfl), (fun _ => rfl), (fun h => absurd ((p13_ hF.out) h 11 (by decide)) (by simp [hd])), (fun h => absurd ((p13_ hF.out) h 11 (by decide)) (by simp [hd])), (fun _ => hw 10 (by decide))⟩
          refine StepsF.cons (o := _) rfl (ws := [11, 9, 9, 0, 1, 2, 3, 4, 5, 6, 7, 8, 9]) (by kernel_rfl) (by decide) (fun d s b w hF hd hw K_ hK => ?_) ?_
          · have hB : Below z2.heap.size z2 w := (p0_ hF.out) hd
            have e0 : s 36 = .pointer (some ⟨K, 0, none⟩) := (p1_ hF.out) (hw 0 (by decide))
            have e1 : s 37 = .pointer (some ⟨K, 0, none⟩) := (p2_ hF.out) (hw 1 (by decide))
            have e2 : s 38 = .pointer (some ⟨K, 0, none⟩) := (p3_ hF.out) (hw 2 (by decide))
            have e3 : s 39 = .pointer (some ⟨K, 0, none⟩) := (p4_ hF.out) (hw 3 (by decide))
            have e4 : s 40 = (.agg (nums .u32 vf 8).toArray) := (p5_ hF.out) (hw 4 (by decide))
            have e5 : s 41 = .pointer (some ⟨K, 0, none⟩) := (p6_ hF.out) (hw 5 (by decide))
            have e6 : s 42 = .pointer (some ⟨K, 0, none⟩) := (p7_ hF.out) (hw 6 (by decide))
            have e7 : s 43 = .pointer (some ⟨K, 8, none⟩) := (p8_ hF.out) (hw 7 (by decide))
            have e8 : s 44 = (.agg (nums .u8 bf 64).toArray) := (p9_ hF.out) (hw 8 (by decide))
            have e9 : s 45 = (.agg (nums .u32 cf 8).toArray) := (p10_ hF.out) (hw 9 (by decide))
            have e11 : s 47 = .pointer (some ⟨K, 0, none⟩) := (p12_ hF.out) (hw 11 (by decide))
            dsimp only
            have oz := HK2.out.later hB
            have hst := store_part (P := Tryd.prog) (o := 0) (n := 8) .u32 cf oz (by rw [hash_len]; decide)
            have oX := HK2.out.later hB
            clear oX
            go_simp
            exact hK.out (ups (ups (ups (ups (ups (ups (ups (ups (ups (ups (ups s 36 (.pointer (some ⟨K, 0, none⟩))) 37 (.pointer (some ⟨K, 0, none⟩))) 38 (.pointer (some ⟨K, 0, none⟩))) 39 (.pointer (some ⟨K, 0, none⟩))) 40 ((.agg (nums .u32 vf 8).toArray))) 41 (.pointer (some ⟨K, 0, none⟩))) 42 (.pointer (some ⟨K, 0, none⟩))) 43 (.pointer (some ⟨K, 8, none⟩))) 44 ((.agg (nums .u8 bf 64).toArray))) 45 ((.agg (nums .u32 cf 8).toArray))) 47 (.pointer (some ⟨K, 0, none⟩))) b _ ⟨(fun h => nomatch h), (fun _ => rfl), (fun _ => rfl), (fun _ => rfl), (fun _ => rfl), (fun _ => rfl), (fun _ => rfl), (fun _ => rfl), (fun _ => rfl), (fun _ => rfl), (fun _ => rfl), (p11_ hF.out), (fun _ => rfl), (fun _ j hj => by by_cases h10 : j = 10; (subst h10; have h2 := (q15_ hF.out) (hw 11 (by decide)); simp [upd, h2]); (have hj2 := hw j (by simp; omega); simp [upd, hj2])), (fun _ => ⟨w, hB, rfl⟩), (q15_ hF.out)⟩
          exact StepsF.nil
        intro d s b z3 hF hall
        replace hF := Lib.hid hF
        obtain ⟨z3, hB, rfl⟩ := (p14_ hF.out) (hall 12 (by decide))
        try dsimp only
        have e0 : s 36 = .pointer (some ⟨K, 0, none⟩) := (p1_ hF.out) (hall 0 (by decide))
        have e1 : s 37 = .pointer (some ⟨K, 0, none⟩) := (p2_ hF.out) (hall 1 (by decide))
        have e2 : s 38 = .pointer (some ⟨K, 0, none⟩) := (p3_ hF.out) (hall 2 (by decide))
        have e3 : s 39 = .pointer (some ⟨K, 0, none⟩) := (p4_ hF.out) (hall 3 (by decide))
        have e4 : s 40 = (.agg (nums .u32 vf 8).toArray) := (p5_ hF.out) (hall 4 (by decide))
        have e5 : s 41 = .pointer (some ⟨K, 0, none⟩) := (p6_ hF.out) (hall 5 (by decide))
        have e6 : s 42 = .pointer (some ⟨K, 0, none⟩) := (p7_ hF.out) (hall 6 (by decide))
        have e7 : s 43 = .pointer (some ⟨K, 8, none⟩) := (p8_ hF.out) (hall 7 (by decide))
        have e8 : s 44 = (.agg (nums .u8 bf 64).toArray) := (p9_ hF.out) (hall 8 (by decide))
        have e9 : s 45 = (.agg (nums .u32 cf 8).toArray) := (p10_ hF.out) (hall 9 (by decide))
        have e10 : s 46 = .pointer (some ⟨K, 0, none⟩) := (p11_ hF.out) (hall 10 (by decide))
        have e11 : s 47 = .pointer (some ⟨K, 0, none⟩) := (p12_ hF.out) (hall 11 (by decide))
        rw [e0, e1, e2, e3, e4, e5, e6, e7, e8, e9, e10, e11]
        clear hall hF e0 e1 e2 e3 e4 e5 e6 e7 e8 e9 e10 e11
        clear d s b
        have B3 := But.of (K := K) hB HK2.out.lt
        have B4 := B3.trans (But.store (K := K) (o := 0) (a := z3) (vs := nums .u32 cf 8))
        have HK3 := Lib.hid (own_val (v' := cf) (HK2.out.later hB))
        have BU3 := Lib.hid (BU2.out.trans B4)
        have HB4 := Lib.hid (HB3.out.but B4)
        clear HK2 HB3 BU2 HG2 B3 B4 hB B2 CC
        generalize (z3.setCells K 0 (nums .u32 cf 8)) = z4 at *
        go_upto_region 6 with fail
        refine wp_region_lit ?_
        refine wpList_move rfl _ rfl ?_
        refine wpList_val rfl (.agg (nums .u8 (fun _ => 0) 64).toArray) (by kernel_rfl) ?_
        refine wpList_val rfl (.pointer (some ⟨K, 0, none⟩)) rfl ?_
        refine wpList_val rfl (.pointer (some ⟨K, 8, none⟩)) (by kernel_rfl) ?_
        refine wpList_store_mid rfl 29 _ _ rfl K 8 (nums .u8 (fun _ => 0) 64).toArray rfl rfl (by rw [nums_size]; exact there_own HK3.out (by rw [hash_len]; decide)) (by kernel_rfl) (nums_all _ _ _) ?_
        change wpList _ _ _ [] _ (z4.setCells K 8 (nums .u8 (fun _ => 0) 64))
        have B5 := But.store (K := K) (o := 8) (a := z4) (vs := nums .u8 (fun _ => 0) 64)
        have HK4 := Lib.hid (show Own K (stateH g M) (z4.setCells K 8 (nums .u8 (fun _ => 0) 64)) by
          rw [← state_full g N r t M ST.out.1 ST.out.2 FU.out, EBF.out, EVF.out, ECF.out]; exact own_blk HK3.out)
        have BU4 := Lib.hid (BU3.out.trans B5)
        have HB5 := Lib.hid (HB4.out.but B5)
        clear HK3 BU3 HB4 B5
        generalize (z4.setCells K 8 (nums .u8 (fun _ => 0) 64)) = z5 at *
        go_wp2_with (fail)
        go_roundw
        case rel => (first | exact ⟨M, L2, p2, c2, NL2.out.1, rfl, NL2.out.2.1, NL2.out.2.2.1, HK4, HB5, BU4⟩ | ((repeat apply Exists.intro); exact ⟨⟨M, L2, p2, c2, NL2.out.1, rfl, NL2.out.2.1, NL2.out.2.2.1, HK4, HB5, BU4⟩, rfl⟩))
        case measure => exact NL2.out.2.2.2
      · obtain ⟨e, ee⟩ : ∃ e, M % 64 = e := ⟨_, rfl⟩
        have he : 0 < e := by have := ST.out; have := HL.out; omega
        have m3 : (M : Int).tmod 64 = (e : Int) := by rw [Int.tmod_eq_emod_of_nonneg (by omega)]; omega
        have m3' : (M : Int) % 64 = (e : Int) := by omega
        have we : IntKind.i64.wrap (e : Int) = (e : Int) := IntWalk.i64_in _ (by omega)
        have ne1 : ¬ ((e : Int) = 0) := by omega
        have ne2 : ¬ (e = 0) := by omega
        have HK3 := Lib.hid (show Own K (stateH g M) (z1.setCells K 72 [.int .i64 (M : Int)]) by
          rw [← state_some g N r t M ST.out.1 ST.out.2 (by have := HL.out; omega), EBF.out, EVF.out]; exact HK2.out)
        clear hfull hr ht0 htL ee
        go_wp2_with (fail)
        go_roundw
        case rel => (first | exact ⟨M, L2, p2, c2, NL2.out.1, rfl, NL2.out.2.1, NL2.out.2.2.1, HK3, HB3, BU2⟩ | ((repeat apply Exists.intro); exact ⟨⟨M, L2, p2, c2, NL2.out.1, rfl, NL2.out.2.1, NL2.out.2.2.1, HK3, HB3, BU2⟩, rfl⟩))
        case measure => exact NL2.out.2.2.2
    · obtain rfl : L = 0 := by omega
      have g1 : decide ((0 : Int) < 0) = false := by decide
      go_wp2_with (fail)
      refine bodyPost_end (results_none rfl _ _ _) rfl ?_
      rw [Nat.add_zero] at eNL
      subst eNL
      exact ⟨rfl, HK.out, BU.out⟩
end Go.Proofs.YtajejlaoompieaaDoor
