/- chacha.Xor. -/
import Derived.Test.YtjkeaiihjbcfgaaDoorYQO
import Derived.LoopN
import Derived.LoopTactic
import Derived.Deep.Onto
import Derived.Laws.OwnMore
namespace Go.Proofs.YtjkeaiihjbcfgaaDoor
set_option linter.unusedVariables false
set_option maxRecDepth 2000
set_option linter.unusedSimpArgs false
open Go.RowKit
def xorB (x y : Int) : Int := bits .xor .u8 x y
theorem xorB_nat (a b : Nat) (ha : a < 256) (hb : b < 256) : xorB (a : Int) (b : Int) = ((a ^^^ b : Nat) : Int) := u8_xor_nat a b ha hb
theorem in_xorB {x y : Int} (hx : inB x) (hy : inB y) : inB (xorB x y) := by
  unfold inB at *
  obtain ⟨a, rfl⟩ := Int.eq_ofNat_of_zero_le hx.1
  obtain ⟨b, rfl⟩ := Int.eq_ofNat_of_zero_le hy.1
  rw [xorB_nat a b (by omega) (by omega)]
  have := Nat.xor_lt_two_pow (n := 8) (x := a) (y := b) (by omega) (by omega)
  omega
theorem xorB_back {x y : Int} (hx : inB x) (hy : inB y) : xorB (xorB x y) y = x := by
  unfold inB at *
  obtain ⟨a, rfl⟩ := Int.eq_ofNat_of_zero_le hx.1
  obtain ⟨b, rfl⟩ := Int.eq_ofNat_of_zero_le hy.1
  have := Nat.xor_lt_two_pow (n := 8) (x := a) (y := b) (by omega) (by omega)
  rw [xorB_nat a b (by omega) (by omega), xorB_nat _ b (by omega) (by omega), Nat.xor_assoc, Nat.xor_self, Nat.xor_zero]
theorem nums_lset (k : IntKind) (f : Nat → Int) (n i : Nat) (v : Int) : (nums k f n).set i (.int k v) = nums k (at1 f i v) n := by
  apply List.ext_getElem?
  intro j
  rw [List.getElem?_set]
  by_cases hj : j < n
  · rw [nums_at _ _ hj, nums_at _ _ hj, nums_length]
    unfold at1
    by_cases h : i = j
    · subst h; simp [hj]
    · rw [if_neg h, if_neg (fun e => h e.symm)]
  · rw [nums_out _ _ (by omega), nums_out _ _ (by omega), nums_length]
    by_cases h : i = j
    · subst h; simp [hj]
    · rw [if_neg h]
/-- the first i bytes combined -/
def mixF (g s : Nat → Int) (i : Nat) : Nat → Int := fun j => if j < i then xorB (g j) (s j) else g j
theorem mix_step (g s : Nat → Int) (i n : Nat) (v : Int) (hv : v = xorB (g i) (s i)) : nums .u8 (at1 (mixF g s i) i v) n = nums .u8 (mixF g s (i + 1)) n := nums_congr _ fun j _ => by
  unfold at1 mixF
  by_cases h : j = i
  · rw [if_pos h, if_pos (by omega), h]; exact hv
  · rw [if_neg h]
    by_cases h2 : j < i
    · rw [if_pos h2, if_pos (by omega)]
    · rw [if_neg h2, if_neg (by omega)]
theorem mix_all (g s : Nat → Int) (n : Nat) : nums .u8 (mixF g s n) n = nums .u8 (fun j => xorB (g j) (s j)) n := nums_congr _ fun _ hj => if_pos hj
theorem row_blk {w : World} {base size n : Nat} {e : TypeId} {v : Value} {xs : List Value} (h : w.ownsRow base e size v n xs) (hn : 0 < n) : ∃ X c, v = .slice (some ⟨X, 0, none⟩) n c ∧ base ≤ X ∧ X < w.heap.size := by
  rcases h.2 with ⟨_, h0⟩ | ⟨X, c, cur, rfl, h1, h2, _⟩
  · omega
  · exact ⟨X, c, rfl, h1, (Array.getElem?_eq_some_iff.1 h2).1⟩

set_option maxHeartbeats 8000000 in
theorem Xor_any (kf nf : Nat → Int) (c : Int) (p : Option Addr) (np cp : Nat) (g : Nat → Int) (T : Nat → Nat) (hT0 : T 0 = 0) (hT : ∀ k, k ≤ np → T k ≤ 65536) (hnc : np ≤ cp) (hcm : cp ≤ 9223372036854775807) (hk : ∀ i, i < 32 → inB (kf i)) (hn : ∀ i, i < 12 → inB (nf i)) (hc : in32 c) (w : World) (hg : Has 0 0 GL w) (hp : Parts w p np g T) :
    Calls Tryd.prog 22 #[(.agg (nums .u8 kf 32).toArray), .int .u32 c, (.agg (nums .u8 nf 12).toArray), .slice p np cp] w fun e w' => ∃ v, e = .returned v ∧ w'.ownsRow w.heap.size 5 1 v (T np) (nums .u8 (fun j => xorB (g j) (strF kf c nf j)) (T np)) ∧ Below w.heap.size w w' := by
  have FK := Lib.hid hk; have FN := Lib.hid hn; have FC := Lib.hid hc; have HG0 := Lib.hid hg
  have JC : Hid (∀ w2, Below w.heap.size w w2 → Calls Tryd.prog 36 #[.slice p np cp] w2 fun e w' => ∃ v, e = .returned v ∧ w'.ownsRow w2.heap.size 5 1 v (T np) (nums .u8 g (T np)) ∧ Below w2.heap.size w2 w') := Lib.hid fun w2 h2 => join_any p np cp g T hT0 hT hnc hcm w2 (hp.later h2)
  have LN := Lib.hid (hT np (Nat.le_refl _))
  obtain ⟨N, eN⟩ : ∃ N, T np = N := ⟨_, rfl⟩
  rw [eN] at JC LN ⊢
  clear hk hn hc hg hT0 hT hnc hcm hp eN T
  go_enter Tryd.func22, Tryd.ntmps22
  go_upto_region 1 with fail
  obtain ⟨W0, hW⟩ : ∃ W0, W0 = ((w.alloc (.cells (nums .u8 kf 32).toArray 22)).alloc (.cells (nums .u8 nf 12).toArray 23)) := ⟨_, rfl⟩
  have hB0 : Below w.heap.size w W0 := hW ▸ (Below.al (Below.al (Below.refl _ _)))
  have HK : Hid (Own w.heap.size (nums .u8 kf 32) W0) := Lib.hid (hW ▸ (show Own w.heap.size (nums .u8 kf 32) (w.alloc (.cells (nums .u8 kf 32).toArray 22)) from Own.newAt (by simp)).alloc)
  have HM : Hid (Own (w.heap.size + 1) (nums .u8 nf 12) W0) := Lib.hid (hW ▸ (show Own (w.heap.size + 1) (nums .u8 nf 12) ((w.alloc (.cells (nums .u8 kf 32).toArray 22)).alloc (.cells (nums .u8 nf 12).toArray 23)) from Own.newAt (by simp)))
  rw [← hW]
  clear hW
  obtain ⟨M_, eM_⟩ : ∃ X, X = (w.heap.size + 1) := ⟨_, rfl⟩
  rw [← eM_] at HM ⊢
  have M_w : w.heap.size ≤ M_ := by omega
  obtain ⟨K, eK⟩ : ∃ X, X = w.heap.size := ⟨_, rfl⟩
  rw [← eK] at HK ⊢
  have Kw : w.heap.size ≤ K := by omega
  have nKM_ : K ≠ M_ := by omega
  have nM_K : M_ ≠ K := by omega
  clear eK eM_
  have HG := Lib.hid (HG0.out.later hB0)
  have W0S := Lib.hid hB0.size
  clear HG0
  go_upto_region 2 with (go_at_call 36; refine (JC.out _ hB0).mono ?_; rintro e w1 ⟨v1, rfl, hrow, hb⟩; obtain ⟨p1, c1, rfl, hc1⟩ := row_form hrow)
  have ROW := Lib.hid hrow
  have NC1 := Lib.hid hc1
  have HX1 := Lib.hid hrow.lt
  have HKk := Lib.hid (HK.out.later hb)
  have HMk := Lib.hid (HM.out.later hb)
  have HGk := Lib.hid (HG.out.later hb)
  clear HK HM HG
  have HK := HKk
  clear HKk
  have HM := HMk
  clear HMk
  have HG := HGk
  clear HGk
  have hB1 := Below.go hB0 hb
  clear hB0 hrow hb JC hc1
  refine wp_region_lit ?_
  refine wpList_load_mid rfl 22 _ rfl K 0 rfl (nums .u8 kf 32) _ HK.out.cell Tryd.underlying22 rfl (by kernel_rfl) ?_
  refine wpList_move rfl _ rfl ?_
  refine wpList_load_mid rfl 23 _ rfl M_ 0 rfl (nums .u8 nf 12) _ HM.out.cell Tryd.underlying23 rfl (by kernel_rfl) ?_
  go_wp2_with (fail)
  go_at_call 37
  refine (Stream_any kf nf c (N : Int) (N : Int) N FK.out FN.out FC.out (by rw [if_neg (by omega)]) (by have := LN.out; rw [if_neg (by omega)]) LN.out _ HG.out).mono ?_
  rintro e w2 ⟨v2, rfl, hrow2, hb2⟩
  obtain ⟨p2, c2, rfl, hc2⟩ := row_form hrow2
  replace ROW := Lib.hid (row_later ROW.out hb2)
  have ROW2 := Lib.hid hrow2
  have HB := Lib.hid (Below.go hB1 hb2)
  have HS := Lib.hid (row_ge hrow2)
  clear hrow2 HK HM HG hB1 hb2 hc2
  have hW0 : Hid (w.heap.size ≤ W0.heap.size) := W0S
  by_cases hN : N = 0
  · subst hN
    go_wp2_with (fail)
    refine wp_loop_rounds 1 ?_
    rw [rounds_succ]
    go_wp2_with (fail)
    go_ret
    exact ⟨_, rfl, ROW.out.mono hW0.out, HB.out⟩
  · obtain ⟨X, c3, e3, _, _⟩ := row_blk ROW.out (by omega)
    obtain ⟨Y, c4, e4, _, _⟩ := row_blk ROW2.out (by omega)
    cases e3; cases e4
    have hX := HX1.out X rfl
    have hY := HS.out Y rfl
    have nXY : X ≠ Y := by omega
    have nYX := Ne.symm nXY
    have wX : w.heap.size ≤ X := by have := hW0.out; omega
    have HY := Lib.hid (row_has ROW2.out).1
    have HX0 := Lib.hid hX.1
    clear hX hY HX1 HS ROW2
    go_wp2_with (fail)
    go_loopw [21] (fun iv wr => ∃ (i : Nat), i ≤ N ∧ iv = .int .i64 i ∧ Hid (wr.ownsRow W0.heap.size 5 1 (.slice (some ⟨X, 0, none⟩) N c1) N (nums .u8 (mixF g (strF kf c nf) i) N)) ∧ Hid (Has Y 0 (nums .u8 (strF kf c nf) N) wr) ∧ Hid (Below w.heap.size w wr)) (fun iv _ => (N - (intOf iv).toNat))
    case atStart => exact ⟨0, Nat.zero_le _, rfl, ROW, HY, HB⟩
    case round =>
      clear ROW HY HB
      obtain ⟨i, hi, rfl, ROW, HY, HB⟩ := hrel
      by_cases hlt : i < N
      · have hii : (i : Int) < (N : Int) := by omega
        have i0 : (0 : Int) ≤ (i : Int) := by omega
        have i63 : (i : Int) + 1 ≤ 9223372036854775807 := by have := LN.out; omega
        have xc := ROW.out.cellAt i (by omega)
        rw [nums_at _ _ hlt, show mixF g (strF kf c nf) i i = g i from if_neg (Nat.lt_irrefl _)] at xc
        have xf := ROW.out.frozenAt i
        have yc := HY.out.at i _ (nums_at _ _ hlt)
        rw [Nat.zero_add] at yc
        have yl := HY.out.lt
        have xl : X < wr.heap.size := (row_has ROW.out).1.lt
        have STP := Lib.hid (fun v hv => mix_step g (strF kf c nf) i N v hv)
        obtain ⟨x, ex⟩ : ∃ x, g i = x := ⟨_, rfl⟩
        obtain ⟨y, ey⟩ : ∃ y, strF kf c nf i = y := ⟨_, rfl⟩
        rw [ex] at xc STP; rw [ey] at yc STP
        obtain ⟨v, ev⟩ : ∃ v, bits .xor .u8 x y = v := ⟨_, rfl⟩
        have o := ROW.out.stored i (.int .u8 v)
        rw [nums_lset, STP.out v (by rw [← ev]; rfl)] at o
        have o1 := Lib.hid o.1
        have o2 := Lib.hid (Has.far (c := X) (o := i) (vs := [.int .u8 v]) HY.out nYX)
        have o3 := Lib.hid (Below.setCells HB.out wX [.int .u8 v] i)
        clear o STP ex ey
        go_wp2_with (fail)
        go_roundw
        case rel => (first | exact ⟨i + 1, by omega, by go_num, o1, o2, o3⟩ | ((repeat apply Exists.intro); exact ⟨⟨i + 1, by omega, by go_num, o1, o2, o3⟩, rfl⟩))
        case measure => simp [intOf]; omega
      · obtain rfl : i = N := by omega
        go_wp2_with (fail)
        go_ret
        refine ⟨_, rfl, ?_, HB.out⟩
        have o := ROW.out.mono hW0.out
        rwa [mix_all] at o
end Go.Proofs.YtjkeaiihjbcfgaaDoor
