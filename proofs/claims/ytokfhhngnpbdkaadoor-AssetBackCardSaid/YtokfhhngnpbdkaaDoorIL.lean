/- asset: the bytes of materials and lights. -/
import Derived.Test.YtokfhhngnpbdkaaDoorIK
import Derived.Lib.Hide
import Derived.LoopN
import Derived.LoopTactic
import Derived.Deep.Onto
import Derived.Deep.RegionHeld3
import Derived.Deep.QuietTactic
import Derived.BigQuiet
import Derived.Great.BuildSlice
import Derived.StillTailTactics
import Derived.Lib.SliceRun
namespace Go.Proofs.YtokfhhngnpbdkaaDoor
set_option linter.unusedVariables false
set_option maxRecDepth 2000
set_option linter.unusedSimpArgs false
open Go.RowKit
theorem Put_okW (q p : Option Addr) (m c n c2 W N : Nat) (f g : Nat → Int) (eN : m + W * n = N) (h1 : 1 ≤ W) (h8 : W ≤ 8) (hg : ∀ k, k < n → 0 ≤ g k ∧ g k ≤ 4294967295) (hf : ∀ k, k < n → fitU W (g k) = true) (hmc : m ≤ c) (hc : c ≤ 9223372036854775807) (hnc : n ≤ c2) (hc2 : c2 ≤ 9223372036854775807) (hm : m ≤ 100000) (hn : n ≤ 1000) (w : World) (hq : Byt w q m f) (hp : Nm w .u64 p n g) :
    Calls Tryd.prog 65 #[.slice q m c, .int .i64 (W : Int), .slice p n c2] w fun e w' => (∃ v, e = .returned (.tuple #[v, .int .i64 0]) ∧ RowR w' v N (outF f m W g)) ∧ Below w.heap.size w w' := by
  refine (Put_any q p m c n c2 (W : Int) f g (fun k hk => by have := hg k hk; omega) hmc hc hnc hc2 (by omega) w hq hp).mono ?_
  rintro e w' ⟨v, he, hr, hb⟩
  rw [putE_ok h1 h8 hf] at he hr
  rw [putL_ok, Int.toNat_natCast, eN] at hr
  exact ⟨⟨v, he, RowR.of hr⟩, hb⟩
theorem fit_4 {x : Int} (h : x < 4294967296) : fitU 4 x = true := decide_eq_true (by have := pw_vals.2.2.2.1; omega)
/-- the bytes of a material, of a light -/
def encG1 (g : Nat → Int) : Nat → Int := outF (fun _ => 0) 0 1 g
def encG2 (g : Nat → Int) : Nat → Int := outF (encG1 g) 1 2 (fun i => g (1 + i))
def encG (g : Nat → Int) : Nat → Int := outF (encG2 g) 7 2 (fun i => g (4 + i))
def encT2 (l : Nat → Int) : Nat → Int := outF (encG1 l) 1 4 (fun i => l (1 + i))
def encLg (l : Nat → Int) : Nat → Int := outF (encT2 l) 13 2 (fun i => l (4 + i))
set_option maxHeartbeats 2000000 in
theorem unsigned_any (a b c : Int) (ha : 0 ≤ a ∧ a ≤ 4294967295) (hb : 0 ≤ b ∧ b ≤ 4294967295) (hc : 0 ≤ c ∧ c ≤ 4294967295) (w : World) : Calls Tryd.prog 68 #[.agg #[.int .i64 a, .int .i64 b, .int .i64 c]] w fun e w' => (∃ p, e = .returned (.slice p 3 3) ∧ Nm w' .u64 p 3 (vec3 a b c)) ∧ Below w.heap.size w w' := by
  have r1 : IntKind.u64.wrap a = a := IntWalk.u64_in _ (by omega)
  have r2 : IntKind.u64.wrap b = b := IntWalk.u64_in _ (by omega)
  have r3 : IntKind.u64.wrap c = c := IntWalk.u64_in _ (by omega)
  clear ha hb hc
  go_enter Tryd.func68, Tryd.ntmps68
  go_upto_region 1 with fail
  obtain ⟨W0, hW⟩ : ∃ W0, W0 = (w.alloc (.cells #[.int .i64 a, .int .i64 b, .int .i64 c] 29)) := ⟨_, rfl⟩
  have hB0 : Below w.heap.size w W0 := hW ▸ (Below.al (Below.refl _ _))
  have HA : Hid (Own w.heap.size ([.int .i64 a, .int .i64 b, .int .i64 c]) W0) := Lib.hid (hW ▸ (show Own w.heap.size ([.int .i64 a, .int .i64 b, .int .i64 c]) (w.alloc (.cells #[.int .i64 a, .int .i64 b, .int .i64 c] 29)) from Own.newAt (by simp)))
  rw [← hW]
  clear hW
  obtain ⟨A, eA⟩ : ∃ X, X = w.heap.size := ⟨_, rfl⟩
  rw [← eA] at HA ⊢
  have Aw : w.heap.size ≤ A := by omega
  clear eA
  have HB := Lib.hid hB0
  clear hB0
  have oA := HA.out
  have A0 := oA.at 0 _ rfl
  have A1 := oA.at 1 _ rfl
  have A2 := oA.at 2 _ rfl
  have Al := oA.lt
  clear oA
  go_wp2_with (fail)
  go_ret
  exact ⟨⟨_, rfl, nm_new rfl⟩, Below.al HB.out⟩
set_option maxHeartbeats 8000000 in
theorem encMat_any (g : Nat → Int) (w : World) : Calls Tryd.prog 54 #[(.agg #[.int .i64 (g 0), .int .i64 (g 1), .int .i64 (g 2), .int .i64 (g 3), .int .i64 (g 4)])] w fun e w' => (∃ v, e = .returned (.tuple #[v, .int .i64 (chkG g)]) ∧ RowR w' v (encL (chkG g) 9) (encG g)) ∧ Below w.heap.size w w' := by
  have CK := Lib.hid (Material_any g)
  by_cases hz : chkG g = 0
  · have OK := okG_iff.1 (chkG_zero hz)
    rw [hz] at CK ⊢
    rw [show encL 0 9 = 9 from rfl]
    have r0 : IntKind.u64.wrap (g 0) = g 0 := IntWalk.u64_in _ (by omega)
    have r4 : IntKind.u64.wrap (g 4) = g 4 := IntWalk.u64_in _ (by omega)
    have C1 := Lib.hid (fun p w hp => Put_okW none p 0 0 1 1 1 1 (fun _ => 0) (fun _ => g 0) rfl (by decide) (by decide) (fun k hk => by omega) (fun k hk => fit_1 (by omega)) (by decide) (by decide) (by decide) (by decide) (by decide) (by decide) w (.inl rfl) hp)
    have CU := Lib.hid (unsigned_any (g 1) (g 2) (g 3) (by omega) (by omega) (by omega))
    have C2 := Lib.hid (fun q c hc1 hc2 p w hq hp => Put_okW q p 1 c 3 3 2 7 (encG1 g) (vec3 (g 1) (g 2) (g 3)) rfl (by decide) (by decide) (fun k hk => by
      match k, hk with
      | 0, _ => show 0 ≤ g 1 ∧ g 1 ≤ _; omega
      | 1, _ => show 0 ≤ g 2 ∧ g 2 ≤ _; omega
      | 2, _ => show 0 ≤ g 3 ∧ g 3 ≤ _; omega) (fun k hk => by
      match k, hk with
      | 0, _ => exact fit_2 (show g 1 < _ by omega)
      | 1, _ => exact fit_2 (show g 2 < _ by omega)
      | 2, _ => exact fit_2 (show g 3 < _ by omega)) hc1 hc2 (by decide) (by decide) (by decide) (by decide) w hq hp)
    have C3 := Lib.hid (fun q c hc1 hc2 p w hq hp => Put_okW q p 7 c 1 1 2 9 (encG2 g) (fun _ => g 4) rfl (by decide) (by decide) (fun k hk => by omega) (fun k hk => fit_2 (by omega)) hc1 hc2 (by decide) (by decide) (by decide) (by decide) w hq hp)
    have F1 : Hid (∀ j, j < 1 → outF (fun _ => 0) 0 1 (fun _ => g 0) j = encG1 g j) := Lib.hid (fun j hj => outF_congr _ _ 0 1 1 _ _ (fun _ _ => rfl) (fun k i hk hi => by rw [show k = 0 by omega]) (by omega))
    have F2 : Hid (∀ j, j < 7 → outF (encG1 g) 1 2 (vec3 (g 1) (g 2) (g 3)) j = encG2 g j) := Lib.hid (fun j hj => outF_congr _ _ 1 2 3 _ _ (fun _ _ => rfl) (fun k i hk hi => by
      match k, hk with
      | 0, _ => rfl
      | 1, _ => rfl
      | 2, _ => rfl) (by omega))
    have F3 : Hid (∀ j, j < 9 → outF (encG2 g) 7 2 (fun _ => g 4) j = encG g j) := Lib.hid (fun j hj => outF_congr _ _ 7 2 1 _ _ (fun _ _ => rfl) (fun k i hk hi => by rw [show k = 0 by omega]) (by omega))
    clear OK hz
    generalize encG1 g = E1 at *
    generalize encG2 g = E2 at *
    generalize encG g = E3 at *
    go_enter Tryd.func54, Tryd.ntmps54
    go_upto_region 1 with fail
    obtain ⟨W0, hW⟩ : ∃ W0, W0 = (w.alloc (.cells #[.int .i64 (g 0), .int .i64 (g 1), .int .i64 (g 2), .int .i64 (g 3), .int .i64 (g 4)] 31)) := ⟨_, rfl⟩
    have hB0 : Below w.heap.size w W0 := hW ▸ (Below.al (Below.refl _ _))
    have HA : Hid (Own w.heap.size ([.int .i64 (g 0), .int .i64 (g 1), .int .i64 (g 2), .int .i64 (g 3), .int .i64 (g 4)]) W0) := Lib.hid (hW ▸ (show Own w.heap.size ([.int .i64 (g 0), .int .i64 (g 1), .int .i64 (g 2), .int .i64 (g 3), .int .i64 (g 4)]) (w.alloc (.cells #[.int .i64 (g 0), .int .i64 (g 1), .int .i64 (g 2), .int .i64 (g 3), .int .i64 (g 4)] 31)) from Own.newAt (by simp)))
    rw [← hW]
    clear hW
    obtain ⟨A, eA⟩ : ∃ X, X = w.heap.size := ⟨_, rfl⟩
    rw [← eA] at HA ⊢
    have Aw : w.heap.size ≤ A := by omega
    clear eA
    have HB := Lib.hid hB0
    clear hB0
    have oA := HA.out
    have A0 := oA.at 0 _ rfl
    have A1 := oA.at 1 _ rfl
    have A2 := oA.at 2 _ rfl
    have A3 := oA.at 3 _ rfl
    have A4 := oA.at 4 _ rfl
    have Al := oA.lt
    clear oA
    go_wp2_with (fail)
    clear A0 A1 A2 A3 A4 Al
    go_at_call 9
    refine (CK.out _).mono ?_
    rintro e w1 ⟨rfl, hb⟩
    have HA_ := Lib.hid (HA.out.later hb)
    clear HA
    have HA := HA_
    clear HA_
    have HB_ := Lib.hid (Below.go HB.out hb)
    clear HB
    have HB := HB_
    clear HB_
    clear hb CK
    have oA := HA.out
    have A0 := oA.at 0 _ rfl
    have A1 := oA.at 1 _ rfl
    have A2 := oA.at 2 _ rfl
    have A3 := oA.at 3 _ rfl
    have A4 := oA.at 4 _ rfl
    have Al := oA.lt
    clear oA
    go_wp2_with (fail)
    clear A0 A1 A2 A3 A4 Al
    go_at_call 65
    refine (C1.out _ _ (nm_new rfl)).mono ?_
    rintro e w2 ⟨⟨v, rfl, q1, c1, rfl, hc1, hc2, hy⟩, hb⟩
    have hbx := Below.go (Below.al (Below.refl _ _)) hb
    clear hb
    have HA_ := Lib.hid (HA.out.later hbx)
    clear HA
    have HA := HA_
    clear HA_
    have HB_ := Lib.hid (Below.go HB.out hbx)
    clear HB
    have HB := HB_
    clear HB_
    clear hbx C1
    have BY1 := Lib.hid (byt_eq hy F1.out); have CC1 := Lib.hid (And.intro hc1 hc2)
    clear hy hc1 hc2 F1
    have oA := HA.out
    have A0 := oA.at 0 _ rfl
    have A1 := oA.at 1 _ rfl
    have A2 := oA.at 2 _ rfl
    have A3 := oA.at 3 _ rfl
    have A4 := oA.at 4 _ rfl
    have Al := oA.lt
    clear oA
    go_wp2_with (fail)
    clear A0 A1 A2 A3 A4 Al
    go_at_call 68
    refine (CU.out _).mono ?_
    rintro e w3 ⟨⟨p, rfl, hn⟩, hb⟩
    have HA_ := Lib.hid (HA.out.later hb)
    clear HA
    have HA := HA_
    clear HA_
    have BY1_ := Lib.hid (BY1.out.later hb)
    clear BY1
    have BY1 := BY1_
    clear BY1_
    have HB_ := Lib.hid (Below.go HB.out hb)
    clear HB
    have HB := HB_
    clear HB_
    clear hb CU
    have HN := Lib.hid hn
    clear hn
    go_wp2_with (fail)
    go_at_call 65
    refine (C2.out _ _ CC1.out.1 CC1.out.2 _ _ BY1.out HN.out).mono ?_
    rintro e w4 ⟨⟨v, rfl, q2, c2, rfl, hc1, hc2, hy⟩, hb⟩
    have HA_ := Lib.hid (HA.out.later hb)
    clear HA
    have HA := HA_
    clear HA_
    have HB_ := Lib.hid (Below.go HB.out hb)
    clear HB
    have HB := HB_
    clear HB_
    clear hb C2 BY1 CC1 HN
    have BY2 := Lib.hid (byt_eq hy F2.out); have CC2 := Lib.hid (And.intro hc1 hc2)
    clear hy hc1 hc2 F2
    have oA := HA.out
    have A0 := oA.at 0 _ rfl
    have A1 := oA.at 1 _ rfl
    have A2 := oA.at 2 _ rfl
    have A3 := oA.at 3 _ rfl
    have A4 := oA.at 4 _ rfl
    have Al := oA.lt
    clear oA
    go_wp2_with (fail)
    clear A0 A1 A2 A3 A4 Al
    go_at_call 65
    refine (C3.out _ _ CC2.out.1 CC2.out.2 _ _ (BY2.out.later (Below.al (Below.refl _ _))) (nm_new rfl)).mono ?_
    rintro e w5 ⟨⟨v, rfl, q3, c3, rfl, hc1, hc2, hy⟩, hb⟩
    have hbx := Below.go (Below.al (Below.refl _ _)) hb
    clear hb
    have HA_ := Lib.hid (HA.out.later hbx)
    clear HA
    have HA := HA_
    clear HA_
    have HB_ := Lib.hid (Below.go HB.out hbx)
    clear HB
    have HB := HB_
    clear HB_
    clear hbx C3 BY2 CC2
    have hy3 := byt_eq hy F3.out
    go_wp2_with (fail)
    exact bodyPost_ret (v := .tuple #[.slice q3 9 c3, .int .i64 0]) (by simp [results, Tryd.results54, go_sem]) rfl ⟨⟨_, rfl, _, _, rfl, hc1, hc2, hy3⟩, HB.out⟩
  · obtain ⟨z, ez⟩ : ∃ z, chkG g = z := ⟨_, rfl⟩
    rw [ez] at CK hz ⊢
    have hd : (z != 0) = true := by simpa using hz
    rw [show encL z 9 = 0 from if_neg hz]
    clear ez hz
    go_enter Tryd.func54, Tryd.ntmps54
    go_upto_region 1 with fail
    obtain ⟨W0, hW⟩ : ∃ W0, W0 = (w.alloc (.cells #[.int .i64 (g 0), .int .i64 (g 1), .int .i64 (g 2), .int .i64 (g 3), .int .i64 (g 4)] 31)) := ⟨_, rfl⟩
    have hB0 : Below w.heap.size w W0 := hW ▸ (Below.al (Below.refl _ _))
    have HA : Hid (Own w.heap.size ([.int .i64 (g 0), .int .i64 (g 1), .int .i64 (g 2), .int .i64 (g 3), .int .i64 (g 4)]) W0) := Lib.hid (hW ▸ (show Own w.heap.size ([.int .i64 (g 0), .int .i64 (g 1), .int .i64 (g 2), .int .i64 (g 3), .int .i64 (g 4)]) (w.alloc (.cells #[.int .i64 (g 0), .int .i64 (g 1), .int .i64 (g 2), .int .i64 (g 3), .int .i64 (g 4)] 31)) from Own.newAt (by simp)))
    rw [← hW]
    clear hW
    obtain ⟨A, eA⟩ : ∃ X, X = w.heap.size := ⟨_, rfl⟩
    rw [← eA] at HA ⊢
    have Aw : w.heap.size ≤ A := by omega
    clear eA
    have HB := Lib.hid hB0
    clear hB0
    have oA := HA.out
    have A0 := oA.at 0 _ rfl
    have A1 := oA.at 1 _ rfl
    have A2 := oA.at 2 _ rfl
    have A3 := oA.at 3 _ rfl
    have A4 := oA.at 4 _ rfl
    have Al := oA.lt
    clear oA
    go_wp2_with (fail)
    clear A0 A1 A2 A3 A4 Al
    go_at_call 9
    refine (CK.out _).mono ?_
    rintro e w1 ⟨rfl, hb⟩
    have HA_ := Lib.hid (HA.out.later hb)
    clear HA
    have HA := HA_
    clear HA_
    have HB_ := Lib.hid (Below.go HB.out hb)
    clear HB
    have HB := HB_
    clear HB_
    clear hb CK
    go_wp2_with (fail)
    exact bodyPost_ret (v := .tuple #[.slice none 0 0, .int .i64 z]) (by simp [results, Tryd.results54, go_sem]) rfl ⟨⟨_, rfl, none, 0, rfl, Nat.le_refl _, by decide, .inl rfl⟩, HB.out⟩
set_option maxHeartbeats 8000000 in
theorem encLgt_any (l : Nat → Int) (w : World) : Calls Tryd.prog 55 #[(.agg #[.int .i64 (l 0), .int .i64 (l 1), .int .i64 (l 2), .int .i64 (l 3), .int .i64 (l 4), .int .i64 (l 5), .int .i64 (l 6), .int .i64 (l 7), .int .i64 (l 8), .int .i64 (l 9), .int .i64 (l 10), .int .i64 (l 11), .int .i64 (l 12)])] w fun e w' => (∃ v, e = .returned (.tuple #[v, .int .i64 (chkLg l)]) ∧ RowR w' v (encL (chkLg l) 31) (encLg l)) ∧ Below w.heap.size w w' := by
  have CK := Lib.hid (Light_any l)
  by_cases hz : chkLg l = 0
  · have OK := chkLg_zero hz
    rw [hz] at CK ⊢
    rw [show encL 0 31 = 31 from rfl]
    obtain ⟨⟨o0, o1, o2, o3⟩, ob, -⟩ := OK
    unfold lgB on3 at ob
    have r0 : IntKind.u64.wrap (l 0) = l 0 := IntWalk.u64_in _ (by omega)
    have C1 := Lib.hid (fun p w hp => Put_okW none p 0 0 1 1 1 1 (fun _ => 0) (fun _ => l 0) rfl (by decide) (by decide) (fun k hk => by omega) (fun k hk => fit_1 (by omega)) (by decide) (by decide) (by decide) (by decide) (by decide) (by decide) w (.inl rfl) hp)
    have CU := Lib.hid (unsigned_any (l 1) (l 2) (l 3) (by omega) (by omega) (by omega))
    have C2 := Lib.hid (fun q c hc1 hc2 p w hq hp => Put_okW q p 1 c 3 3 4 13 (encG1 l) (vec3 (l 1) (l 2) (l 3)) rfl (by decide) (by decide) (fun k hk => by
      match k, hk with
      | 0, _ => show 0 ≤ l 1 ∧ l 1 ≤ _; omega
      | 1, _ => show 0 ≤ l 2 ∧ l 2 ≤ _; omega
      | 2, _ => show 0 ≤ l 3 ∧ l 3 ≤ _; omega) (fun k hk => by
      match k, hk with
      | 0, _ => exact fit_4 (show l 1 < _ by omega)
      | 1, _ => exact fit_4 (show l 2 < _ by omega)
      | 2, _ => exact fit_4 (show l 3 < _ by omega)) hc1 hc2 (by decide) (by decide) (by decide) (by decide) w hq hp)
    have CO := Lib.hid (fun q w hq => coords_any q 3 3 (fun i => l (4 + i)) (by decide) (by decide) (by decide) w hq)
    have C3 := Lib.hid (fun q c hc1 hc2 p d h1 h2 w hq hp => Signed_ok q p 13 c (3 * 3) d 31 (encT2 l) (fun i => l (4 + i)) rfl (fun k hk => by
      match k, hk with
      | 0, _ => show _ ≤ l 4 ∧ l 4 ≤ _; omega
      | 1, _ => show _ ≤ l 5 ∧ l 5 ≤ _; omega
      | 2, _ => show _ ≤ l 6 ∧ l 6 ≤ _; omega
      | 3, _ => show _ ≤ l 7 ∧ l 7 ≤ _; omega
      | 4, _ => show _ ≤ l 8 ∧ l 8 ≤ _; omega
      | 5, _ => show _ ≤ l 9 ∧ l 9 ≤ _; omega
      | 6, _ => show _ ≤ l 10 ∧ l 10 ≤ _; omega
      | 7, _ => show _ ≤ l 11 ∧ l 11 ≤ _; omega
      | 8, _ => show _ ≤ l 12 ∧ l 12 ≤ _; omega) hc1 hc2 h1 h2 (by decide) (by decide) w hq hp)
    have F1 : Hid (∀ j, j < 1 → outF (fun _ => 0) 0 1 (fun _ => l 0) j = encG1 l j) := Lib.hid (fun j hj => outF_congr _ _ 0 1 1 _ _ (fun _ _ => rfl) (fun k i hk hi => by rw [show k = 0 by omega]) (by omega))
    have F2 : Hid (∀ j, j < 13 → outF (encG1 l) 1 4 (vec3 (l 1) (l 2) (l 3)) j = encT2 l j) := Lib.hid (fun j hj => outF_congr _ _ 1 4 3 _ _ (fun _ _ => rfl) (fun k i hk hi => by
      match k, hk with
      | 0, _ => rfl
      | 1, _ => rfl
      | 2, _ => rfl) (by omega))
    have F3 : Hid (outF (encT2 l) 13 2 (fun i => l (4 + i)) = encLg l) := Lib.hid rfl
    rw [F3.out] at C3
    clear o0 o1 o2 o3 ob hz F3
    generalize encG1 l = E1 at *
    generalize encT2 l = E2 at *
    generalize encLg l = E3 at *
    go_enter Tryd.func55, Tryd.ntmps55
    go_upto_region 1 with fail
    obtain ⟨W0, hW⟩ : ∃ W0, W0 = (w.alloc (.cells #[.int .i64 (l 0), .int .i64 (l 1), .int .i64 (l 2), .int .i64 (l 3), .int .i64 (l 4), .int .i64 (l 5), .int .i64 (l 6), .int .i64 (l 7), .int .i64 (l 8), .int .i64 (l 9), .int .i64 (l 10), .int .i64 (l 11), .int .i64 (l 12)] 35)) := ⟨_, rfl⟩
    have hB0 : Below w.heap.size w W0 := hW ▸ (Below.al (Below.refl _ _))
    have HA : Hid (Own w.heap.size ([.int .i64 (l 0), .int .i64 (l 1), .int .i64 (l 2), .int .i64 (l 3), .int .i64 (l 4), .int .i64 (l 5), .int .i64 (l 6), .int .i64 (l 7), .int .i64 (l 8), .int .i64 (l 9), .int .i64 (l 10), .int .i64 (l 11), .int .i64 (l 12)]) W0) := Lib.hid (hW ▸ (show Own w.heap.size ([.int .i64 (l 0), .int .i64 (l 1), .int .i64 (l 2), .int .i64 (l 3), .int .i64 (l 4), .int .i64 (l 5), .int .i64 (l 6), .int .i64 (l 7), .int .i64 (l 8), .int .i64 (l 9), .int .i64 (l 10), .int .i64 (l 11), .int .i64 (l 12)]) (w.alloc (.cells #[.int .i64 (l 0), .int .i64 (l 1), .int .i64 (l 2), .int .i64 (l 3), .int .i64 (l 4), .int .i64 (l 5), .int .i64 (l 6), .int .i64 (l 7), .int .i64 (l 8), .int .i64 (l 9), .int .i64 (l 10), .int .i64 (l 11), .int .i64 (l 12)] 35)) from Own.newAt (by simp)))
    rw [← hW]
    clear hW
    obtain ⟨A, eA⟩ : ∃ X, X = w.heap.size := ⟨_, rfl⟩
    rw [← eA] at HA ⊢
    have Aw : w.heap.size ≤ A := by omega
    clear eA
    have HB := Lib.hid hB0
    clear hB0
    have oA := HA.out
    have A0 := oA.at 0 _ rfl
    have A1 := oA.at 1 _ rfl
    have A2 := oA.at 2 _ rfl
    have A3 := oA.at 3 _ rfl
    have A4 := oA.at 4 _ rfl
    have A5 := oA.at 5 _ rfl
    have A6 := oA.at 6 _ rfl
    have A7 := oA.at 7 _ rfl
    have A8 := oA.at 8 _ rfl
    have A9 := oA.at 9 _ rfl
    have A10 := oA.at 10 _ rfl
    have A11 := oA.at 11 _ rfl
    have A12 := oA.at 12 _ rfl
    have Al := oA.lt
    clear oA
    go_wp2_with (fail)
    clear A0 A1 A2 A3 A4 A5 A6 A7 A8 A9 A10 A11 A12 Al
    go_at_call 11
    refine (CK.out _).mono ?_
    rintro e w1 ⟨rfl, hb⟩
    have HA_ := Lib.hid (HA.out.later hb)
    clear HA
    have HA := HA_
    clear HA_
    have HB_ := Lib.hid (Below.go HB.out hb)
    clear HB
    have HB := HB_
    clear HB_
    clear hb CK
    have oA := HA.out
    have A0 := oA.at 0 _ rfl
    have A1 := oA.at 1 _ rfl
    have A2 := oA.at 2 _ rfl
    have A3 := oA.at 3 _ rfl
    have A4 := oA.at 4 _ rfl
    have A5 := oA.at 5 _ rfl
    have A6 := oA.at 6 _ rfl
    have A7 := oA.at 7 _ rfl
    have A8 := oA.at 8 _ rfl
    have A9 := oA.at 9 _ rfl
    have A10 := oA.at 10 _ rfl
    have A11 := oA.at 11 _ rfl
    have A12 := oA.at 12 _ rfl
    have Al := oA.lt
    clear oA
    go_wp2_with (fail)
    clear A0 A1 A2 A3 A4 A5 A6 A7 A8 A9 A10 A11 A12 Al
    go_at_call 65
    refine (C1.out _ _ (nm_new rfl)).mono ?_
    rintro e w2 ⟨⟨v, rfl, q1, c1, rfl, hc1, hc2, hy⟩, hb⟩
    have hbx := Below.go (Below.al (Below.refl _ _)) hb
    clear hb
    have HA_ := Lib.hid (HA.out.later hbx)
    clear HA
    have HA := HA_
    clear HA_
    have HB_ := Lib.hid (Below.go HB.out hbx)
    clear HB
    have HB := HB_
    clear HB_
    clear hbx C1
    have BY1 := Lib.hid (byt_eq hy F1.out); have CC1 := Lib.hid (And.intro hc1 hc2)
    clear hy hc1 hc2 F1
    have oA := HA.out
    have A0 := oA.at 0 _ rfl
    have A1 := oA.at 1 _ rfl
    have A2 := oA.at 2 _ rfl
    have A3 := oA.at 3 _ rfl
    have A4 := oA.at 4 _ rfl
    have A5 := oA.at 5 _ rfl
    have A6 := oA.at 6 _ rfl
    have A7 := oA.at 7 _ rfl
    have A8 := oA.at 8 _ rfl
    have A9 := oA.at 9 _ rfl
    have A10 := oA.at 10 _ rfl
    have A11 := oA.at 11 _ rfl
    have A12 := oA.at 12 _ rfl
    have Al := oA.lt
    clear oA
    go_wp2_with (fail)
    clear A0 A1 A2 A3 A4 A5 A6 A7 A8 A9 A10 A11 A12 Al
    go_at_call 68
    refine (CU.out _).mono ?_
    rintro e w3 ⟨⟨p, rfl, hn⟩, hb⟩
    have HA_ := Lib.hid (HA.out.later hb)
    clear HA
    have HA := HA_
    clear HA_
    have BY1_ := Lib.hid (BY1.out.later hb)
    clear BY1
    have BY1 := BY1_
    clear BY1_
    have HB_ := Lib.hid (Below.go HB.out hb)
    clear HB
    have HB := HB_
    clear HB_
    clear hb CU
    have HN := Lib.hid hn
    clear hn
    go_wp2_with (fail)
    go_at_call 65
    refine (C2.out _ _ CC1.out.1 CC1.out.2 _ _ BY1.out HN.out).mono ?_
    rintro e w4 ⟨⟨v, rfl, q2, c2, rfl, hc1, hc2, hy⟩, hb⟩
    have HA_ := Lib.hid (HA.out.later hb)
    clear HA
    have HA := HA_
    clear HA_
    have HB_ := Lib.hid (Below.go HB.out hb)
    clear HB
    have HB := HB_
    clear HB_
    clear hb C2 BY1 CC1 HN
    have BY2 := Lib.hid (byt_eq hy F2.out); have CC2 := Lib.hid (And.intro hc1 hc2)
    clear hy hc1 hc2 F2
    have oA := HA.out
    have A0 := oA.at 0 _ rfl
    have A1 := oA.at 1 _ rfl
    have A2 := oA.at 2 _ rfl
    have A3 := oA.at 3 _ rfl
    have A4 := oA.at 4 _ rfl
    have A5 := oA.at 5 _ rfl
    have A6 := oA.at 6 _ rfl
    have A7 := oA.at 7 _ rfl
    have A8 := oA.at 8 _ rfl
    have A9 := oA.at 9 _ rfl
    have A10 := oA.at 10 _ rfl
    have A11 := oA.at 11 _ rfl
    have A12 := oA.at 12 _ rfl
    have Al := oA.lt
    clear oA
    go_wp2_with (fail)
    clear A0 A1 A2 A3 A4 A5 A6 A7 A8 A9 A10 A11 A12 Al
    go_at_call 26
    refine (CO.out _ _ (.inr ⟨_, 0, rfl, (Own.new _ [.int .i64 (l 4), .int .i64 (l 5), .int .i64 (l 6), .int .i64 (l 7), .int .i64 (l 8), .int .i64 (l 9), .int .i64 (l 10), .int .i64 (l 11), .int .i64 (l 12)] _).has⟩)).mono ?_
    rintro e w5 ⟨⟨p, d, rfl, hN, hd1, hd2⟩, hb⟩
    have hbx := Below.go (Below.al (Below.refl _ _)) hb
    clear hb
    have HA_ := Lib.hid (HA.out.later hbx)
    clear HA
    have HA := HA_
    clear HA_
    have BY2_ := Lib.hid (BY2.out.later hbx)
    clear BY2
    have BY2 := BY2_
    clear BY2_
    have HB_ := Lib.hid (Below.go HB.out hbx)
    clear HB
    have HB := HB_
    clear HB_
    clear hbx CO
    have HN := Lib.hid hN; have HD := Lib.hid (And.intro hd1 hd2)
    clear hN hd1 hd2
    go_wp2_with (fail)
    go_at_call 66
    refine (C3.out _ _ CC2.out.1 CC2.out.2 _ _ HD.out.1 HD.out.2 _ BY2.out HN.out).mono ?_
    rintro e w6 ⟨⟨v, rfl, q3, c3, rfl, hc1, hc2, hy⟩, hb⟩
    have HA_ := Lib.hid (HA.out.later hb)
    clear HA
    have HA := HA_
    clear HA_
    have HB_ := Lib.hid (Below.go HB.out hb)
    clear HB
    have HB := HB_
    clear HB_
    clear hb C3 BY2 CC2 HN HD
    go_wp2_with (fail)
    exact bodyPost_ret (v := .tuple #[.slice q3 31 c3, .int .i64 0]) (by simp [results, Tryd.results55, go_sem]) rfl ⟨⟨_, rfl, _, _, rfl, hc1, hc2, hy⟩, HB.out⟩
  · obtain ⟨z, ez⟩ : ∃ z, chkLg l = z := ⟨_, rfl⟩
    rw [ez] at CK hz ⊢
    have hd : (z != 0) = true := by simpa using hz
    rw [show encL z 31 = 0 from if_neg hz]
    clear ez hz
    go_enter Tryd.func55, Tryd.ntmps55
    go_upto_region 1 with fail
    obtain ⟨W0, hW⟩ : ∃ W0, W0 = (w.alloc (.cells #[.int .i64 (l 0), .int .i64 (l 1), .int .i64 (l 2), .int .i64 (l 3), .int .i64 (l 4), .int .i64 (l 5), .int .i64 (l 6), .int .i64 (l 7), .int .i64 (l 8), .int .i64 (l 9), .int .i64 (l 10), .int .i64 (l 11), .int .i64 (l 12)] 35)) := ⟨_, rfl⟩
    have hB0 : Below w.heap.size w W0 := hW ▸ (Below.al (Below.refl _ _))
    have HA : Hid (Own w.heap.size ([.int .i64 (l 0), .int .i64 (l 1), .int .i64 (l 2), .int .i64 (l 3), .int .i64 (l 4), .int .i64 (l 5), .int .i64 (l 6), .int .i64 (l 7), .int .i64 (l 8), .int .i64 (l 9), .int .i64 (l 10), .int .i64 (l 11), .int .i64 (l 12)]) W0) := Lib.hid (hW ▸ (show Own w.heap.size ([.int .i64 (l 0), .int .i64 (l 1), .int .i64 (l 2), .int .i64 (l 3), .int .i64 (l 4), .int .i64 (l 5), .int .i64 (l 6), .int .i64 (l 7), .int .i64 (l 8), .int .i64 (l 9), .int .i64 (l 10), .int .i64 (l 11), .int .i64 (l 12)]) (w.alloc (.cells #[.int .i64 (l 0), .int .i64 (l 1), .int .i64 (l 2), .int .i64 (l 3), .int .i64 (l 4), .int .i64 (l 5), .int .i64 (l 6), .int .i64 (l 7), .int .i64 (l 8), .int .i64 (l 9), .int .i64 (l 10), .int .i64 (l 11), .int .i64 (l 12)] 35)) from Own.newAt (by simp)))
    rw [← hW]
    clear hW
    obtain ⟨A, eA⟩ : ∃ X, X = w.heap.size := ⟨_, rfl⟩
    rw [← eA] at HA ⊢
    have Aw : w.heap.size ≤ A := by omega
    clear eA
    have HB := Lib.hid hB0
    clear hB0
    have oA := HA.out
    have A0 := oA.at 0 _ rfl
    have A1 := oA.at 1 _ rfl
    have A2 := oA.at 2 _ rfl
    have A3 := oA.at 3 _ rfl
    have A4 := oA.at 4 _ rfl
    have A5 := oA.at 5 _ rfl
    have A6 := oA.at 6 _ rfl
    have A7 := oA.at 7 _ rfl
    have A8 := oA.at 8 _ rfl
    have A9 := oA.at 9 _ rfl
    have A10 := oA.at 10 _ rfl
    have A11 := oA.at 11 _ rfl
    have A12 := oA.at 12 _ rfl
    have Al := oA.lt
    clear oA
    go_wp2_with (fail)
    clear A0 A1 A2 A3 A4 A5 A6 A7 A8 A9 A10 A11 A12 Al
    go_at_call 11
    refine (CK.out _).mono ?_
    rintro e w1 ⟨rfl, hb⟩
    have HA_ := Lib.hid (HA.out.later hb)
    clear HA
    have HA := HA_
    clear HA_
    have HB_ := Lib.hid (Below.go HB.out hb)
    clear HB
    have HB := HB_
    clear HB_
    clear hb CK
    go_wp2_with (fail)
    exact bodyPost_ret (v := .tuple #[.slice none 0 0, .int .i64 z]) (by simp [results, Tryd.results55, go_sem]) rfl ⟨⟨_, rfl, none, 0, rfl, Nat.le_refl _, by decide, .inl rfl⟩, HB.out⟩
end Go.Proofs.YtokfhhngnpbdkaaDoor
