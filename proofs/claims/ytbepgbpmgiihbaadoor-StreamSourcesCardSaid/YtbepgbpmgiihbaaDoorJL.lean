/- StreamSources: the walk. -/
import Derived.Test.YtbepgbpmgiihbaaDoorJI
import Derived.Test.YtbepgbpmgiihbaaDoorPS
import Derived.Test.YtbepgbpmgiihbaaDoorPC
import Derived.Lib.Hide
import Derived.LoopN
import Derived.LoopTactic
import Derived.Deep.Onto
import Derived.Deep.WholeRow
import Derived.Deep.RegionHeld3
namespace Go.Proofs.YtbepgbpmgiihbaaDoor
set_option linter.unusedVariables false
set_option maxRecDepth 2000
set_option linter.unusedSimpArgs false
open Go.RowKit
/-- n pairs of whole numbers -/
def Asks (w : World) (p : Option Addr) (n : Nat) (gx gy : Nat → Int) : Prop := ∀ k, k < n → ∃ blk off, p = some ⟨blk, off, none⟩ ∧ Has blk (off + k * 2) [.int .i64 (gx k), .int .i64 (gy k)] w
theorem Asks.later {w w' : World} {p : Option Addr} {n : Nat} {gx gy : Nat → Int} (h : Asks w p n gx gy) (hb : Below w.heap.size w w') : Asks w' p n gx gy := fun k hk => by
  obtain ⟨blk, off, h1, h2⟩ := h k hk
  exact ⟨blk, off, h1, h2.later hb⟩
/-- the cells of no Source -/
def zeroS : List Value := .int .u64 0 :: .int .u32 0 :: .int .u32 0 :: .int .u32 0 :: .bool false :: lastL 0 0 0 0 (fun _ => 0) false
theorem zeroS_size : zeroS.toArray.size = 74 := by kernel_rfl
theorem zeroS_len : zeroS.length = 74 := by kernel_rfl
theorem zeroValueS (w : World) : (zeroValue 39).run Tryd.prog w = .ok (.agg zeroS.toArray) w := by kernel_rfl
attribute [local go_sem] zeroValueS zeroS_size zeroS_len

set_option maxHeartbeats 8000000 in
theorem Sources_law (sd : Int) (f gx gy : Nat → Int) (p : Option Addr) (n c : Nat) (hs : in64u sd) (hf : ∀ i, i < 2 → inI (f i)) (hle : n ≤ c) (hmax : c ≤ 9223372036854775807) (w : World) (hg : Has 0 0 GL w) (ha : Asks w p n gx gy) (hx : ∀ k, k < n → inI (gx k) ∧ inI (gy k)) :
    Calls Tryd.prog 4 #[.int .u64 sd, (.agg (nums .i64 f 2).toArray), .slice p n c] w fun e w' => e = .returned (.bool true) ∧ Below w.heap.size w w' := by
  have FS := Lib.hid hs; have HG0 := Lib.hid hg; have AW := Lib.hid ha; have IX := Lib.hid hx; have NM := Lib.hid (show n ≤ 9223372036854775807 by omega)
  have FN := Lib.hid (New_any sd (f 0) (f 1) hs (hf 0 (by decide)) (hf 1 (by decide)))
  have FX := Lib.hid (fun B bo di oc hb hd => Next_any B sd (f 0 % 4294967296) (f 1 % 4294967296) bo di oc hs (m32 _) (m32 _) hb hd)
  have FR := Lib.hid (fun bo di hb hd => RAt_any sd (f 0) (f 1) bo di hs (hf 0 (by decide)) (hf 1 (by decide)) hb hd)
  have EQ := Lib.hid (show ∀ bo di, atF sd (f 0 % 4294967296) (f 1 % 4294967296) bo di = at10 sd (f 0) (f 1) bo di from fun _ _ => rfl)
  obtain ⟨P, eP⟩ : ∃ P, f 0 % 4294967296 = P := ⟨_, rfl⟩
  obtain ⟨Q, eQ⟩ : ∃ Q, f 1 % 4294967296 = Q := ⟨_, rfl⟩
  rw [eP, eQ] at FN FX EQ
  have G0 : Hid (0 < w.heap.size) := Lib.hid hg.lt
  clear hs hf hle hmax hg ha hx eP eQ
  go_enter Tryd.func4, Tryd.ntmps4
  go_upto_region 1 with fail
  obtain ⟨W0, hW⟩ : ∃ W0, W0 = (w.alloc (.cells (nums .i64 f 2).toArray 28)) := ⟨_, rfl⟩
  have hB0 : Below w.heap.size w W0 := hW ▸ (Below.al (Below.refl _ _))
  have HT : Hid (Own w.heap.size (nums .i64 f 2) W0) := Lib.hid (hW ▸ (show Own w.heap.size (nums .i64 f 2) (w.alloc (.cells (nums .i64 f 2).toArray 28)) from Own.newAt (by simp)))
  rw [← hW]
  clear hW
  obtain ⟨T, eT⟩ : ∃ X, X = w.heap.size := ⟨_, rfl⟩
  rw [← eT] at HT ⊢
  have Tw : w.heap.size ≤ T := by omega
  clear eT
  have HG := Lib.hid (HG0.out.later hB0)
  clear HG0
  have t0 := HT.out.at 0 _ (nums_at .i64 f (show 0 < 2 by decide))
  have t1 := HT.out.at 1 _ (nums_at .i64 f (show 1 < 2 by decide))
  have Tl := HT.out.lt
  go_wp2_with (fail)
  go_at_call 9
  refine (FN.out _).mono ?_
  rintro e w1 ⟨rfl, hb, ho⟩
  obtain ⟨B, eB⟩ : ∃ B, B = W0.heap.size := ⟨_, rfl⟩
  rw [← eB] at ho ⊢
  have nTB : T ≠ B := by omega
  have wB : w.heap.size ≤ B := by have := hB0.size; omega
  have HO : Hid (∃ oc, Own B (srcF sd P Q oc) w1) := Lib.hid ⟨none, ho⟩
  have HT1 := Lib.hid (HT.out.has.later hb)
  have HG1 := Lib.hid (HG.out.later hb)
  have HB1 := Lib.hid (Below.go hB0 hb)
  clear t0 t1 Tl eB HT HG hB0 hb ho
  go_wp2_with (fail)
  go_loopw [8] (fun iv wr => ∃ (k : Nat), k ≤ n ∧ k ≤ 20 ∧ iv = .int .i64 k ∧ Hid (Below w.heap.size w wr) ∧ Hid (∃ oc, Own B (srcF sd P Q oc) wr) ∧ Hid (Has T 0 (nums .i64 f 2) wr) ∧ Hid (Has 0 0 GL wr)) (fun iv _ => (20 - (intOf iv).toNat))
  case atStart => exact ⟨0, Nat.zero_le _, Nat.zero_le _, rfl, HB1, HO, HT1, HG1⟩
  case round =>
    clear HB1 HO HT1 HG1
    obtain ⟨k, hk, hk20, rfl, HB, HO, HT, HG⟩ := hrel
    by_cases hlt : k < n
    · by_cases hlt2 : k < 20
      · obtain ⟨blk, off, rfl, ha⟩ := (AW.out.later HB.out) k hlt
        have hki : (k : Int) < (n : Int) := by omega
        have k20 : (k : Int) < 20 := by omega
        have k0 : (0 : Int) ≤ (k : Int) := by omega
        have wk : IntKind.i64.wrap ((k : Int) + 1) = (k : Int) + 1 := IntWalk.i64_in _ (by omega)
        have HE := Lib.hid (show k + 1 ≤ n by omega)
        have HE2 := Lib.hid (show k + 1 ≤ 20 by omega)
        clear hk hk20
        obtain ⟨oc, ho⟩ := HO.out
        have hx := IX.out k hlt
        have Bl := ho.lt
        have bl : blk ≠ B := by
          have h1 := (AW.out k hlt)
          obtain ⟨b2, o2, h2, h3⟩ := h1
          cases h2
          have := h3.lt
          omega
        have n0B : 0 ≠ B := by have := G0.out; omega
        obtain ⟨x, ex⟩ : ∃ x, gx k = x := ⟨_, rfl⟩
        obtain ⟨y, ey⟩ : ∃ y, gy k = y := ⟨_, rfl⟩
        rw [ex, ey] at ha hx
        obtain ⟨a0, ea0⟩ : ∃ a, off + k * 2 = a := ⟨_, rfl⟩
        rw [ea0] at ha
        have CX := Lib.hid (FX.out B x y oc hx.1 hx.2)
        have CR := Lib.hid (FR.out x y hx.1 hx.2)
        have EE := EQ.out x y
        rw [EE] at CX
        clear EE
        generalize at10 sd (f 0) (f 1) x y = z at *
        have SH : Hid (∀ w', But B wr w' → w'.cell? ⟨blk, a0, none⟩ = some (.int .i64 x) ∧ w'.cell? ⟨blk, a0 + 1, none⟩ = some (.int .i64 y) ∧ w'.cell? ⟨T, 0, none⟩ = some (.int .i64 (f 0)) ∧ w'.cell? ⟨T, 1, none⟩ = some (.int .i64 (f 1))) := Lib.hid fun w' hb =>
          ⟨(ha.but hb bl).at 0 _ rfl, (ha.but hb bl).at 1 _ rfl, by have := (HT.out.but hb nTB).at 0 _ (nums_at .i64 f (show 0 < 2 by decide)); rwa [Nat.zero_add] at this, by have := (HT.out.but hb nTB).at 1 _ (nums_at .i64 f (show 1 < 2 by decide)); rwa [Nat.zero_add] at this⟩
        have hBd : But B wr wr.drew := But.drew Bl
        have HOd := Lib.hid ho.drew
        have HGd := Lib.hid HG.out.drew
        clear hx ex ey ha ho HO
        go_upto_region 7 with fail
        go_region_held3 (fun w' => w'.cell? ⟨blk, a0, none⟩ = some (.int .i64 x) ∧ w'.cell? ⟨blk, a0 + 1, none⟩ = some (.int .i64 y) ∧ w'.cell? ⟨T, 0, none⟩ = some (.int .i64 (f 0)) ∧ w'.cell? ⟨T, 1, none⟩ = some (.int .i64 (f 1))) (first | exact SH.out _ (by assumption)) (first | (go_at_call 10; (with_reducible refine (CX.out _ HGd.out HOd.out).mono ?_); rintro e y1 ⟨rfl, h1, h2⟩; have by1 : But B wr y1 := hBd.trans h1; have HO1 := Lib.hid h2; clear h1 h2) | (go_at_call 7; (with_reducible refine (CR.out _).mono ?_); rintro e y2 ⟨rfl, h1⟩; have by2 : But B wr y2 := by1.trans (But.of h1 HO1.out.lt); have HO2 := Lib.hid (HO1.out.later h1); clear h1))
        have o1 := Lib.hid (HB.out.trans (by2.below.mono wB))
        have o2 : Hid (∃ oc, Own B (srcF sd P Q oc) y2) := Lib.hid ⟨_, HO2.out⟩
        have o3 := Lib.hid (HT.out.but by2 nTB)
        have o4 := Lib.hid (HG.out.but by2 n0B)
        have K20 := Lib.hid hlt2
        clear HB HT HG by1 by2 HO1 HO2 SH hBd HOd HGd CX CR ea0 hlt hlt2
        go_wp2_with (fail)
        go_roundw
        case rel => (first | exact ⟨k + 1, HE.out, HE2.out, by go_num, o1, o2, o3, o4⟩ | ((repeat apply Exists.intro); exact ⟨⟨k + 1, HE.out, HE2.out, by go_num, o1, o2, o3, o4⟩, rfl⟩))
        case measure => have := K20.out; simp [intOf]; omega
      · have e20 : k = 20 := by omega
        subst e20
        have hki : ((20 : Nat) : Int) < (n : Int) := by omega
        clear hk hk20 hlt2 hlt
        go_upto_region 11 with fail
        obtain ⟨wz, ez⟩ : ∃ x, x = wr.alloc (.cells zeroS.toArray 39) := ⟨_, rfl⟩
        have cN : wz.cell? ⟨wr.heap.size, 4, none⟩ = some (.bool false) := ez ▸ (show Own wr.heap.size zeroS (wr.alloc (.cells zeroS.toArray 39)) from Own.newAt (by simp)).at 4 _ rfl
        have hz : Below w.heap.size w wz := ez ▸ Below.al HB.out
        rw [← ez]
        clear ez HB HO HT HG
        generalize wr.heap.size = N0 at *
        go_wp2_with (fail)
        go_at_call 10
        refine (Next_unmade N0 1 2 _ cN).mono ?_
        rintro e w5 ⟨rfl, hb⟩
        have hz2 := Below.go hz hb
        clear hz hb cN
        go_wp2_with (fail)
        go_at_call 10
        refine (Next_nil 1 2 _).mono ?_
        rintro e w6 ⟨rfl, hb⟩
        have hz3 := Below.go hz2 hb
        clear hz2 hb
        go_wp2_with (fail)
        go_at_call 8
        refine (works10_any _).mono ?_
        rintro e w7 ⟨rfl, hb⟩
        have hz4 := Below.go hz3 hb
        go_wp2_with (fail)
        go_ret
        exact ⟨rfl, hz4⟩
    · have en : k = n := by omega
      subst en
      have hki : decide ((k : Int) < (k : Int)) = false := by simp
      clear hk hk20 hlt
      go_upto_region 11 with fail
      obtain ⟨wz, ez⟩ : ∃ x, x = wr.alloc (.cells zeroS.toArray 39) := ⟨_, rfl⟩
      have cN : wz.cell? ⟨wr.heap.size, 4, none⟩ = some (.bool false) := ez ▸ (show Own wr.heap.size zeroS (wr.alloc (.cells zeroS.toArray 39)) from Own.newAt (by simp)).at 4 _ rfl
      have hz : Below w.heap.size w wz := ez ▸ Below.al HB.out
      rw [← ez]
      clear ez HB HO HT HG
      generalize wr.heap.size = N0 at *
      go_wp2_with (fail)
      go_at_call 10
      refine (Next_unmade N0 1 2 _ cN).mono ?_
      rintro e w5 ⟨rfl, hb⟩
      have hz2 := Below.go hz hb
      clear hz hb cN
      go_wp2_with (fail)
      go_at_call 10
      refine (Next_nil 1 2 _).mono ?_
      rintro e w6 ⟨rfl, hb⟩
      have hz3 := Below.go hz2 hb
      clear hz2 hb
      go_wp2_with (fail)
      go_at_call 8
      refine (works10_any _).mono ?_
      rintro e w7 ⟨rfl, hb⟩
      have hz4 := Below.go hz3 hb
      go_wp2_with (fail)
      go_ret
      exact ⟨rfl, hz4⟩
end Go.Proofs.YtbepgbpmgiihbaaDoor
