/- The document's carried. -/
import Derived.Test.YtbofihejegbfhaaNM
import Derived.Lib.Hide
namespace Go.Proofs.Ytbofihejegbfhaa
set_option linter.unusedVariables false
set_option maxRecDepth 2000
set_option linter.unusedSimpArgs false
open Go.RowKit
/-- one step of a round of carrying -/
def stepC (f : Nat → Int) (i : Nat) : Nat → Int :=
  if i < 4 then at1 (at1 f i (f i - f i / 67108864 * 67108864)) (i + 1) (f (i + 1) + f i / 67108864)
  else at1 (at1 f i (f i - f i / 67108864 * 67108864)) 0 (f 0 + 5 * (f i / 67108864))
def itC (f : Nat → Int) : Nat → Nat → Int
  | 0 => f
  | i + 1 => stepC (itC f i) i
def itR (f : Nat → Int) : Nat → Nat → Int
  | 0 => f
  | r + 1 => itC (itR f r) 5
/-- how great digits may be at the i-th step -/
def invC (i : Nat) (g : Nat → Int) : Prop := (∀ j, j < 5 → 0 ≤ g j) ∧ (∀ j, j < 5 → i < j → g j ≤ 2305843009213693952) ∧ (i < 5 → g i ≤ 2305843077933170688) ∧ (∀ j, j < 5 → j < i → g j ≤ if i < 5 then 67108863 else 1099511627776)
theorem invC_start {g : Nat → Int} (h : ∀ j, j < 5 → 0 ≤ g j ∧ g j ≤ 2305843009213693952) : invC 0 g := ⟨fun j hj => (h j hj).1, fun j hj _ => (h j hj).2, fun _ => by have := (h 0 (by decide)).2; omega, fun j _ hj => by omega⟩
theorem invC_step {g : Nat → Int} {i : Nat} (hi : i < 5) (h : invC i g) : invC (i + 1) (stepC g i) := by
  obtain ⟨h1, h2, h3, h4⟩ := h
  have x0 := h1 i hi
  have x1 := h3 hi
  unfold stepC
  by_cases e : i < 4
  · rw [if_pos e]
    have y0 := h1 (i + 1) (by omega)
    have y1 := h2 (i + 1) (by omega) (by omega)
    refine ⟨fun j hj => ?_, fun j hj hij => ?_, fun _ => ?_, fun j hj hij => ?_⟩
    · unfold at1
      split
      · omega
      · split
        · omega
        · exact h1 j hj
    · unfold at1
      rw [if_neg (by omega), if_neg (by omega)]
      exact h2 j hj (by omega)
    · unfold at1
      rw [if_pos rfl]
      omega
    · rw [if_pos (by omega)]
      unfold at1
      rw [if_neg (by omega)]
      split
      · omega
      · have := h4 j hj (by omega)
        rwa [if_pos hi] at this
  · rw [if_neg e]
    obtain rfl : i = 4 := by omega
    have y0 := h1 0 (by decide)
    have y1 := h4 0 (by decide) (by decide)
    rw [if_pos (by decide)] at y1
    refine ⟨fun j hj => ?_, fun j hj hij => by omega, fun h => by omega, fun j hj hij => ?_⟩
    · unfold at1
      split
      · omega
      · split
        · omega
        · exact h1 j hj
    · rw [if_neg (by decide)]
      unfold at1
      split
      · omega
      · split
        · omega
        · have := h4 j hj (by omega)
          rw [if_pos (by decide)] at this
          omega
theorem stepC_nums (g : Nat → Int) (i : Nat) (h : i < 4) (m s : Int) (hm : m = g i - g i / 67108864 * 67108864) (hs : s = g (i + 1) + g i / 67108864) : nums .i64 (at1 (at1 g i m) (i + 1) s) 5 = nums .i64 (stepC g i) 5 := by
  unfold stepC; rw [if_pos h, hm, hs]
theorem stepC_nums4 (g : Nat → Int) (m s : Int) (hm : m = g 4 - g 4 / 67108864 * 67108864) (hs : s = g 0 + 5 * (g 4 / 67108864)) : nums .i64 (at1 (at1 g 4 m) 0 s) 5 = nums .i64 (stepC g 4) 5 := by
  unfold stepC; rw [if_neg (by decide), hm, hs]
theorem invC_end {g : Nat → Int} (h : invC 5 g) : invC 0 g := invC_start fun j hj => ⟨h.1 j hj, by have := h.2.2.2 j hj hj; rw [if_neg (by decide)] at this; omega⟩
attribute [local go_sem] nums_length

set_option maxHeartbeats 4000000 in
theorem carried_any (f : Nat → Int) (hf : ∀ j, j < 5 → 0 ≤ f j ∧ f j ≤ 2305843009213693952) (w : World) :
    Calls Try.prog 22 #[(.agg (nums .i64 f 5).toArray)] w fun e w' => e = .returned (.agg (nums .i64 (itR f 3) 5).toArray) ∧ Below w.heap.size w w' := by
  have I0 := Lib.hid (invC_start hf)
  clear hf
  go_enter Try.func22, Try.ntmps22
  go_upto_region 1 with fail
  obtain ⟨W0, hW⟩ : ∃ W0, W0 = ((w.alloc (.cells (nums .i64 f 5).toArray 49)).alloc (.cells #[.int .i64 0, .int .i64 0, .int .i64 0, .int .i64 0, .int .i64 0] 49)) := ⟨_, rfl⟩
  have hB0 : Below w.heap.size w W0 := hW ▸ (Below.al (Below.al (Below.refl _ _)))
  have HX : Hid (Own w.heap.size (nums .i64 f 5) W0) := Lib.hid (hW ▸ (show Own w.heap.size (nums .i64 f 5) (w.alloc (.cells (nums .i64 f 5).toArray 49)) from Own.newAt (by simp)).alloc)
  have HR : Hid (Own (w.heap.size + 1) (nums .i64 (fun _ => 0) 5) W0) := Lib.hid (hW ▸ (show Own (w.heap.size + 1) (nums .i64 (fun _ => 0) 5) ((w.alloc (.cells (nums .i64 f 5).toArray 49)).alloc (.cells #[.int .i64 0, .int .i64 0, .int .i64 0, .int .i64 0, .int .i64 0] 49)) from Own.newAt (by simp)))
  rw [← hW]
  clear hW
  obtain ⟨R, eR⟩ : ∃ X, X = (w.heap.size + 1) := ⟨_, rfl⟩
  rw [← eR] at HR ⊢
  have Rw : w.heap.size ≤ R := by omega
  obtain ⟨X, eX⟩ : ∃ X, X = w.heap.size := ⟨_, rfl⟩
  rw [← eX] at HX ⊢
  have Xw : w.heap.size ≤ X := by omega
  have nXR : X ≠ R := by omega
  have nRX : R ≠ X := by omega
  clear eX eR
  go_wp2_with (fail)
  go_loopw [3] (fun rv wr => ∃ (r_ : Nat), r_ ≤ 3 ∧ rv = .int .i64 r_ ∧ Hid (Below w.heap.size w wr) ∧ Hid (Own X (nums .i64 (itR f r_) 5) wr) ∧ Hid (Own R (nums .i64 (fun _ => 0) 5) wr) ∧ Hid (invC 0 (itR f r_))) (fun rv _ => (3 - (intOf rv).toNat))
  case atStart => exact ⟨0, by decide, rfl, Lib.hid hB0, HX, HR, I0⟩
  case round =>
    clear HX HR hB0 I0
    obtain ⟨r_, hr, rfl, HB, HX, HR, INV⟩ := hrel
    by_cases hlt : r_ < 3
    · have r3 : (r_ : Int) < 3 := by omega
      have wr1 : IntKind.i64.wrap ((r_ : Int) + 1) = (r_ : Int) + 1 := IntWalk.i64_in _ (by omega)
      have EG := Lib.hid (show itR f (r_ + 1) = itC (itR f r_) 5 from rfl)
      have HLT := Lib.hid hlt
      generalize itR f r_ = g at *
      clear hr hlt
      go_wp2_with (fail)
      go_loopw [4] (fun iv ws => ∃ (i : Nat), i ≤ 5 ∧ iv = .int .i64 i ∧ Hid (Below w.heap.size w ws) ∧ Hid (Own X (nums .i64 (itC g i) 5) ws) ∧ Hid (Own R (nums .i64 (fun _ => 0) 5) ws) ∧ Hid (invC i (itC g i))) (fun iv _ => (5 - (intOf iv).toNat))
      case atStart => exact ⟨0, by decide, rfl, HB, HX, HR, INV⟩
      case round =>
        clear HB HX HR INV
        obtain ⟨i, hi, rfl, HB, HX, HR, INV⟩ := hrel
        by_cases h5 : i < 5
        · have x0 := HX.out.at i _ (nums_at _ _ h5)
          have xf := HX.out.ok i (by rw [nums_length]; exact h5)
          have Xl := HX.out.lt
          have a0 := INV.out.1 i h5
          have a1 := INV.out.2.2.1 h5
          obtain ⟨x, ex⟩ : ∃ x, itC g i i = x := ⟨_, rfl⟩
          rw [ex] at x0 a0 a1
          have i0 : (0 : Int) ≤ (i : Int) := by omega
          have i5 : (i : Int) < 5 := by omega
          by_cases h4 : i < 4
          ·
            have y0 := HX.out.at (i + 1) _ (nums_at _ _ (by omega))
            have yf := HX.out.ok (i + 1) (by rw [nums_length]; omega)
            have b1 := INV.out.1 (i + 1) (by omega)
            have b2 := INV.out.2.1 (i + 1) (by omega) (by omega)
            obtain ⟨y, ey⟩ : ∃ y, itC g i (i + 1) = y := ⟨_, rfl⟩
            rw [ey] at y0 b1 b2
            obtain ⟨c, ec⟩ : ∃ c, x / 67108864 = c := ⟨_, rfl⟩
            obtain ⟨k_, ek⟩ : ∃ k, c * 67108864 = k := ⟨_, rfl⟩
            obtain ⟨m_, em⟩ : ∃ m, x - k_ = m := ⟨_, rfl⟩
            have wk : IntKind.i64.wrap k_ = k_ := IntWalk.i64_in _ (by omega)
            have wk2 : wrap64 k_ = k_ := by unfold wrap64; omega
            have wm : IntKind.i64.wrap m_ = m_ := IntWalk.i64_in _ (by omega)
            obtain ⟨s, es⟩ : ∃ s, y + c = s := ⟨_, rfl⟩
            have ws : IntKind.i64.wrap s = s := IntWalk.i64_in _ (by omega)
            have SN := stepC_nums (itC g i) i h4 m_ s (by rw [ex, ec, ek, em]) (by rw [ex, ey, ec, es])
            rw [show stepC (itC g i) i = itC g (i + 1) from rfl] at SN
            have o1 := own_set (i := (i + 1)) (v := s) (own_set (i := i) (v := m_) HX.out (by omega)) (by omega)
            rw [SN] at o1
            have O1 := Lib.hid o1
            have O2 := Lib.hid (Own.far (o := (i + 1)) (vs := [.int .i64 s]) (Own.far (o := i) (vs := [.int .i64 m_]) HR.out nRX) nRX)
            have O3 := Lib.hid (Below.setCells (Below.setCells HB.out Xw [.int .i64 m_] i) Xw [.int .i64 s] (i + 1))
            have O4 : Hid (invC (i + 1) (itC g (i + 1))) := Lib.hid (invC_step (by omega) INV.out)
            clear ex ey SN b1 b2 a0 a1 INV HX HR HB o1
            have h4i : (i : Int) < 4 := by omega
            have w1 : IntKind.i64.wrap ((i : Int) + 1) = ((i + 1 : Nat) : Int) := by rw [IntWalk.i64_in _ (by omega)]; omega
            obtain ⟨n_, en⟩ : ∃ n : Nat, i + 1 = n := ⟨_, rfl⟩
            have nei : ¬ i = n_ := by omega
            have nei2 : ¬ n_ = i := by omega
            have n0 : (0 : Int) ≤ (n_ : Int) := by omega
            have n5 : (n_ : Int) < 5 := by omega
            have n5b : n_ ≤ 5 := by omega
            have HIN := Lib.hid (show i < n_ by omega)
            rw [en] at y0 yf w1 O1 O2 O3 O4
            clear en h4 h5 hi
            go_wp2_with (fail)
            go_roundw
            case rel => (first | exact ⟨n_, n5b, rfl, O3, O1, O2, O4⟩ | ((repeat apply Exists.intro); exact ⟨⟨n_, n5b, rfl, O3, O1, O2, O4⟩, rfl⟩))
            case measure => (have := HIN.out; simp [intOf]; omega)
          · obtain rfl : i = 4 := by omega
            clear hi h5 h4 i0 i5
            have y0 := HX.out.at 0 _ (nums_at _ _ (by omega))
            have yf := HX.out.ok 0 (by rw [nums_length]; omega)
            have b1 := INV.out.1 0 (by omega)
            have b2 := INV.out.2.2.2 0 (by decide) (by decide)
            rw [if_pos (by decide)] at b2
            obtain ⟨y, ey⟩ : ∃ y, itC g 4 0 = y := ⟨_, rfl⟩
            rw [ey] at y0 b1 b2
            obtain ⟨c, ec⟩ : ∃ c, x / 67108864 = c := ⟨_, rfl⟩
            obtain ⟨k_, ek⟩ : ∃ k, c * 67108864 = k := ⟨_, rfl⟩
            obtain ⟨m_, em⟩ : ∃ m, x - k_ = m := ⟨_, rfl⟩
            have wk : IntKind.i64.wrap k_ = k_ := IntWalk.i64_in _ (by omega)
            have wk2 : wrap64 k_ = k_ := by unfold wrap64; omega
            have wm : IntKind.i64.wrap m_ = m_ := IntWalk.i64_in _ (by omega)
            obtain ⟨d_, ed⟩ : ∃ d, 5 * c = d := ⟨_, rfl⟩
            have wd : IntKind.i64.wrap d_ = d_ := IntWalk.i64_in _ (by omega)
            obtain ⟨s, es⟩ : ∃ s, y + d_ = s := ⟨_, rfl⟩
            have ws : IntKind.i64.wrap s = s := IntWalk.i64_in _ (by omega)
            have SN := stepC_nums4 (itC g 4) m_ s (by rw [ex, ec, ek, em]) (by rw [ex, ey, ec, ed, es])
            rw [show stepC (itC g 4) 4 = itC g (4 + 1) from rfl] at SN
            have o1 := own_set (i := 0) (v := s) (own_set (i := 4) (v := m_) HX.out (by omega)) (by omega)
            rw [SN] at o1
            have O1 := Lib.hid o1
            have O2 := Lib.hid (Own.far (o := 0) (vs := [.int .i64 s]) (Own.far (o := 4) (vs := [.int .i64 m_]) HR.out nRX) nRX)
            have O3 := Lib.hid (Below.setCells (Below.setCells HB.out Xw [.int .i64 m_] 4) Xw [.int .i64 s] 0)
            have O4 : Hid (invC (4 + 1) (itC g (4 + 1))) := Lib.hid (invC_step (by omega) INV.out)
            clear ex ey SN b1 b2 a0 a1 INV HX HR HB o1
            go_wp2_with (fail)
            go_roundw
            case rel => (first | exact ⟨5, by decide, rfl, O3, O1, O2, O4⟩ | ((repeat apply Exists.intro); exact ⟨⟨5, by decide, rfl, O3, O1, O2, O4⟩, rfl⟩))
            case measure => simp [intOf]
        · have e5 : i = 5 := by omega
          subst e5
          have HX2 := Lib.hid (EG.out ▸ HX.out)
          have I2 := Lib.hid (EG.out ▸ invC_end INV.out)
          clear HX INV hi h5
          go_wp2_with (fail)
          go_roundw
          case rel => (first | exact ⟨r_ + 1, HLT.out, by go_num, HB, HX2, HR, I2⟩ | ((repeat apply Exists.intro); exact ⟨⟨r_ + 1, HLT.out, by go_num, HB, HX2, HR, I2⟩, rfl⟩))
          case measure => (have := HLT.out; simp [intOf]; omega)
    · have e3 : r_ = 3 := by omega
      subst e3
      go_upto_region 12 with fail
      have hB0 := HB.out
      refine wp_region_lit ?_
      refine wpList_load_mid rfl 49 _ rfl X 0 rfl (nums .i64 (itR f 3) 5) _ HX.out.cell Try.underlying49 rfl (by kernel_rfl) ?_
      refine wpList_store_mid rfl 49 _ _ rfl R 0 (nums .i64 (itR f 3) 5).toArray rfl rfl HR.out.free (by kernel_rfl) (nums_all _ _ _) ?_
      change wpList _ _ _ [] _ (wr.setCells R 0 (nums .i64 (itR f 3) 5))
      have HRn : Hid (Own R (nums .i64 (itR f 3) 5) (wr.setCells R 0 (nums .i64 (itR f 3) 5))) := Lib.hid (Own.store HR.out (by simp [nums_length]))
      have HXn : Hid (Own X (nums .i64 (itR f 3) 5) (wr.setCells R 0 (nums .i64 (itR f 3) 5))) := Lib.hid (Own.far (o := 0) (vs := (nums .i64 (itR f 3) 5)) HX.out nXR)
      have hB0n : Below w.heap.size w (wr.setCells R 0 (nums .i64 (itR f 3) 5)) := Below.setCells hB0 Rw (nums .i64 (itR f 3) 5) 0
      clear HR HX hB0
      generalize (wr.setCells R 0 (nums .i64 (itR f 3) 5)) = wz at *
      have HR := HRn
      clear HRn
      have HX := HXn
      clear HXn
      have hB0 := hB0n
      clear hB0n
      go_wp2_with (fail)
      have hL := run_loadVar_mid (P := Try.prog) _ R 0 49 (nums .i64 (itR f 3) 5) _ HR.out.cell Try.underlying49 rfl (by kernel_rfl)
      exact bodyPost_ret (v := .agg (nums .i64 (itR f 3) 5).toArray) (res_cell Try.results22 rfl hL) rfl ⟨rfl, hB0⟩
end Go.Proofs.Ytbofihejegbfhaa
