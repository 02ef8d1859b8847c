/- The accumulator; poly.kept.tag. -/
import Derived.Test.YtbofihejegbfhaaNJ
import Derived.Lib.Hide
import Derived.Deep.Onto
namespace Go.Proofs.Ytbofihejegbfhaa
set_option linter.unusedVariables false
set_option maxRecDepth 2000
set_option linter.unusedSimpArgs false
open Go.RowKit
/-- the number of the k-th block -/
def blkN (f : Nat → Int) (N k : Nat) : Nat := numB (blkB f N k) 17
/-- the accumulator behind k blocks -/
def horn (r : Nat) (f : Nat → Int) (N : Nat) : Nat → Nat
  | 0 => 0
  | k + 1 => (horn r f N k + blkN f N k) * r % PP
theorem horn_lt (r : Nat) (f : Nat → Int) (N : Nat) : ∀ k, horn r f N k < PP
  | 0 => (by decide : 0 < PP)
  | k + 1 => Nat.mod_lt _ (by decide)
/-- the factor of a key -/
def facN (kf : Nat → Int) : Nat := numB (clampF kf) 16
theorem facN_lt {kf : Nat → Int} (h : ∀ i, i < 16 → inB (kf i)) : facN kf < 21267647932558653966460912964485513216 := by
  unfold facN
  have h1 := numB_lt (clampF kf) 15 fun i hi => in_clampF (h i (by omega))
  have h2 := h 15 (by decide)
  rw [numB, show clampF kf 15 = kf 15 % 16 from rfl]
  unfold inB at h2
  have h3 : (kf 15 % 16).toNat * 256 ^ 15 ≤ 15 * 256 ^ 15 := Nat.mul_le_mul_right _ (by omega)
  rw [show (256 : Nat) ^ 15 = 1329227995784915872903807060280344576 from rfl] at *
  omega
theorem blkN_lt {f : Nat → Int} {N : Nat} (h : ∀ i, i < N → inB (f i)) (k : Nat) : blkN f N k < 680564733841876926926749214863536422912 := by
  unfold blkN
  have h1 := numB_lt (blkB f N k) 16 fun i _ => in_blkB h k i
  have h2 : blkB f N k 16 = 0 ∨ blkB f N k 16 = 1 := by
    unfold blkB
    rw [if_neg (by omega)]
    split
    · exact .inr rfl
    · exact .inl rfl
  have e1 : numB (blkB f N k) 17 = numB (blkB f N k) 16 + (blkB f N k 16).toNat * 340282366920938463463374607431768211456 := rfl
  rw [show (256 : Nat) ^ 16 = 340282366920938463463374607431768211456 from rfl] at h1
  rw [e1]
  rcases h2 with e | e
  · rw [e]; simp only [Int.toNat_zero, Nat.zero_mul]; omega
  · rw [e, show (1 : Int).toNat = 1 from rfl]; omega
theorem prod_lt {h b r : Nat} (h1 : h < PP) (h2 : b < 680564733841876926926749214863536422912) (h3 : r < 21267647932558653966460912964485513216) : (h + b) * r < 2 ^ 255 := by
  have h4 : h + b ≤ 2722258935367507707706996859454145691648 := by unfold PP at h1; omega
  have := Nat.mul_le_mul h4 (Nat.le_of_lt h3)
  have h5 : (h + b) * r ≤ (h + b) * 21267647932558653966460912964485513215 := Nat.mul_le_mul_left _ (by omega)
  have h6 : (h + b) * 21267647932558653966460912964485513215 ≤ 2722258935367507707706996859454145691648 * 21267647932558653966460912964485513215 := Nat.mul_le_mul_right _ h4
  have : 2722258935367507707706996859454145691648 * 21267647932558653966460912964485513215 < 2 ^ 255 := by decide
  omega
/-- the tag, as a number that is cut to 16 bytes -/
def tagN (kf f : Nat → Int) (n : Nat) : Nat := horn (facN kf) f n ((n + 15) / 16) + numB (fun i => kf (16 + i)) 16
theorem row_has' {w : World} {base size n g cap : Nat} {e : TypeId} {xs : List Value} (h : w.ownsRow base e size (.slice (some ⟨g, 0, none⟩) n cap) n xs) : Has g 0 xs w ∧ base ≤ g := by
  rcases h.2 with ⟨h0, _⟩ | ⟨g', cap', cur, hv, hg, hh, h1, h2, h3, h4⟩
  · cases h0
  · cases hv
    refine ⟨⟨(Array.getElem?_eq_some_iff.1 hh).1, fun j v hj => ?_⟩, hg⟩
    rw [cell_of_row w g (0 + j) cur e (0, 0) hh, Nat.zero_add]
    rw [← h4] at hj
    rw [List.getElem?_take] at hj
    split at hj
    · simpa using hj
    · cases hj
/-- a slice from a row's head that holds f's first n bytes, from B on -/
def ByG (w : World) (q : Option Addr) (n : Nat) (f : Nat → Int) (B : Nat) : Prop := n = 0 ∨ ∃ G, q = some ⟨G, 0, none⟩ ∧ B ≤ G ∧ Has G 0 (nums .u8 f n) w
theorem ByG.later {w w' : World} {q : Option Addr} {n B : Nat} {f : Nat → Int} (h : ByG w q n f B) (hb : Below w.heap.size w w') : ByG w' q n f B := by
  rcases h with h | ⟨b, h1, h2, h3⟩
  · exact .inl h
  · exact .inr ⟨b, h1, h2, h3.later hb⟩
theorem ByG.far {w : World} {q : Option Addr} {n B X o : Nat} {f : Nat → Int} {vs : List Value} (h : ByG w q n f B) (hX : X < B) : ByG (w.setCells X o vs) q n f B := by
  rcases h with h | ⟨b, h1, h2, h3⟩
  · exact .inl h
  · exact .inr ⟨b, h1, h2, h3.far (by omega)⟩
theorem row_byg {w : World} {base n size : Nat} {e : TypeId} {p : Option Addr} {c : Nat} {f : Nat → Int} (h : w.ownsRow base e size (.slice p n c) n (nums .u8 f (n * size))) : ByG w p (n * size) f base := by
  rcases h.2 with ⟨_, h0⟩ | ⟨X, c', cur, he, h1, _⟩
  · exact .inl (by rw [h0, Nat.zero_mul])
  · cases he
    exact .inr ⟨X, rfl, h1, (row_has' h).1⟩
/-- a slice that holds f's first n bytes, below B -/
def BytU (w : World) (q : Option Addr) (n : Nat) (f : Nat → Int) (B : Nat) : Prop := n = 0 ∨ ∃ b off, q = some ⟨b, off, none⟩ ∧ b < B ∧ Has b off (nums .u8 f n) w
theorem Byt.upto {w : World} {q : Option Addr} {n : Nat} {f : Nat → Int} (h : Byt w q n f) : BytU w q n f w.heap.size := by
  rcases h with h | ⟨b, off, h1, h2⟩
  · exact .inl h
  · exact .inr ⟨b, off, h1, h2.lt, h2⟩
theorem BytU.byt {w : World} {q : Option Addr} {n B : Nat} {f : Nat → Int} (h : BytU w q n f B) : Byt w q n f := by
  rcases h with h | ⟨b, off, h1, _, h2⟩
  · exact .inl h
  · exact .inr ⟨b, off, h1, h2⟩
theorem BytU.later {w w' : World} {q : Option Addr} {n B : Nat} {f : Nat → Int} (h : BytU w q n f B) (hb : Below w.heap.size w w') : BytU w' q n f B := by
  rcases h with h | ⟨b, off, h1, h2, h3⟩
  · exact .inl h
  · exact .inr ⟨b, off, h1, h2, h3.later hb⟩
theorem BytU.below {w w' : World} {q : Option Addr} {n B : Nat} {f : Nat → Int} (h : BytU w q n f B) (hb : Below B w w') : BytU w' q n f B := by
  rcases h with h | ⟨b, off, h1, h2, h3⟩
  · exact .inl h
  · exact .inr ⟨b, off, h1, h2, h3.below hb h2⟩
theorem BytU.far {w : World} {q : Option Addr} {n B X o : Nat} {f : Nat → Int} {vs : List Value} (h : BytU w q n f B) (hX : B ≤ X) : BytU (w.setCells X o vs) q n f B :=
  h.below (Below.setCells (Below.refl _ _) hX vs o)
theorem BytU.drew {w : World} {q : Option Addr} {n B : Nat} {f : Nat → Int} (h : BytU w q n f B) : BytU w.drew q n f B := h.later (Below.refl _ _).drew
theorem has_take {b o n m : Nat} {k : IntKind} {f : Nat → Int} {W : World} (h : Has b o (nums k f n) W) (hm : m ≤ n) : Has b o (nums k f m) W := ⟨h.lt, fun j v hv => by
  have hj : j < m := by have := (List.getElem?_eq_some_iff.1 hv).1; rwa [nums_length] at this
  rw [nums_at _ _ hj] at hv
  exact h.cell j v ((nums_at _ _ (by omega)).trans hv)⟩
theorem has_drop {b o n m i : Nat} {k : IntKind} {f : Nat → Int} {W : World} (h : Has b o (nums k f n) W) (hm : i + m ≤ n) : Has b (o + i) (nums k (fun j => f (i + j)) m) W := ⟨h.lt, fun j v hv => by
  have hj : j < m := by have := (List.getElem?_eq_some_iff.1 hv).1; rwa [nums_length] at this
  rw [nums_at _ _ hj] at hv
  rw [Nat.add_assoc]
  exact h.cell (i + j) v ((nums_at _ _ (by omega)).trans hv)⟩
theorem st4 (w : World) (f : Nat → Int) (c : Array Value) (hc : c.size = 4) : (storeCells ⟨w.heap.size, 0, none⟩ (nums .u64 f 4)).run Try.prog (w.alloc (.cells c 59)) = .ok () (w.alloc (.cells (nums .u64 f 4).toArray 59)) :=
  run_storeCells_new (P := Try.prog) w 59 c (nums .u64 f 4).toArray (by rw [nums_size]; kernel_rfl) (by rw [nums_size, hc]) (nums_all _ _ _)
theorem st17 (w : World) (f : Nat → Int) (c : Array Value) (hc : c.size = 17) : (storeCells ⟨w.heap.size, 0, none⟩ (nums .u8 f 17)).run Try.prog (w.alloc (.cells c 48)) = .ok () (w.alloc (.cells (nums .u8 f 17).toArray 48)) :=
  run_storeCells_new (P := Try.prog) w 48 c (nums .u8 f 17).toArray (by rw [nums_size]; kernel_rfl) (by rw [nums_size, hc]) (nums_all _ _ _)
attribute [local go_sem] nums_length st4 st17

set_option maxHeartbeats 4000000 in
theorem tag_any (kf f : Nat → Int) (K off : Nat) (p : Option Addr) (n c : Nat) (hk : ∀ i, i < 32 → inB (kf i)) (hf : ∀ i, i < n → inB (f i)) (hn : n ≤ 65536) (hnc : n ≤ c) (hc : c ≤ 9223372036854775807) (w : World) (hK : Has K off [.slice p n c] w) (hb : Byt w p n f) :
    Calls Try.prog 17 #[.pointer (some ⟨K, off, none⟩), (.agg (nums .u8 kf 32).toArray)] w fun e w' => e = .returned (.agg (nums .u8 (byt (tagN kf f n)) 16).toArray) ∧ Below w.heap.size w w' := by
  have KB := Lib.hid hk; have FB := Lib.hid hf; have HN := Lib.hid hn; have HNC := Lib.hid hnc; have HC := Lib.hid hc
  have HK0 := Lib.hid hK; have BY0 := Lib.hid hb
  have Kw := hK.lt
  clear hk hf hn hnc hc hK hb
  go_enter Try.func17, Try.ntmps17
  go_upto_region 2 with fail
  obtain ⟨W0, hW⟩ : ∃ W0, W0 = (((w.alloc (.cells (nums .u8 kf 32).toArray 22)).alloc (.cells #[.int .u8 0, .int .u8 0, .int .u8 0, .int .u8 0, .int .u8 0, .int .u8 0, .int .u8 0, .int .u8 0, .int .u8 0, .int .u8 0, .int .u8 0, .int .u8 0, .int .u8 0, .int .u8 0, .int .u8 0, .int .u8 0] 29)).alloc (.cells #[.int .u8 0, .int .u8 0, .int .u8 0, .int .u8 0, .int .u8 0, .int .u8 0, .int .u8 0, .int .u8 0, .int .u8 0, .int .u8 0, .int .u8 0, .int .u8 0, .int .u8 0, .int .u8 0, .int .u8 0, .int .u8 0] 29)) := ⟨_, rfl⟩
  have hB0 : Below w.heap.size w W0 := hW ▸ (Below.al (Below.al (Below.al (Below.refl _ _))))
  have HY : Hid (Own w.heap.size (nums .u8 kf 32) W0) := Lib.hid (hW ▸ (show Own w.heap.size (nums .u8 kf 32) (w.alloc (.cells (nums .u8 kf 32).toArray 22)) from Own.newAt (by simp)).alloc.alloc)
  have HR : Hid (Own (w.heap.size + 1) (nums .u8 (fun _ => 0) 16) W0) := Lib.hid (hW ▸ (show Own (w.heap.size + 1) (nums .u8 (fun _ => 0) 16) ((w.alloc (.cells (nums .u8 kf 32).toArray 22)).alloc (.cells #[.int .u8 0, .int .u8 0, .int .u8 0, .int .u8 0, .int .u8 0, .int .u8 0, .int .u8 0, .int .u8 0, .int .u8 0, .int .u8 0, .int .u8 0, .int .u8 0, .int .u8 0, .int .u8 0, .int .u8 0, .int .u8 0] 29)) from Own.newAt (by simp)).alloc)
  have HX : Hid (Own ((w.heap.size + 1) + 1) (nums .u8 (fun _ => 0) 16) W0) := Lib.hid (hW ▸ (show Own ((w.heap.size + 1) + 1) (nums .u8 (fun _ => 0) 16) (((w.alloc (.cells (nums .u8 kf 32).toArray 22)).alloc (.cells #[.int .u8 0, .int .u8 0, .int .u8 0, .int .u8 0, .int .u8 0, .int .u8 0, .int .u8 0, .int .u8 0, .int .u8 0, .int .u8 0, .int .u8 0, .int .u8 0, .int .u8 0, .int .u8 0, .int .u8 0, .int .u8 0] 29)).alloc (.cells #[.int .u8 0, .int .u8 0, .int .u8 0, .int .u8 0, .int .u8 0, .int .u8 0, .int .u8 0, .int .u8 0, .int .u8 0, .int .u8 0, .int .u8 0, .int .u8 0, .int .u8 0, .int .u8 0, .int .u8 0, .int .u8 0] 29)) from Own.newAt (by simp)))
  rw [← hW]
  clear hW
  obtain ⟨X, eX⟩ : ∃ X, X = ((w.heap.size + 1) + 1) := ⟨_, rfl⟩
  rw [← eX] at HX ⊢
  have Xw : w.heap.size ≤ X := by omega
  obtain ⟨R, eR⟩ : ∃ X, X = (w.heap.size + 1) := ⟨_, rfl⟩
  rw [← eR] at HR ⊢
  have Rw : w.heap.size ≤ R := by omega
  obtain ⟨Y, eY⟩ : ∃ X, X = w.heap.size := ⟨_, rfl⟩
  rw [← eY] at HY ⊢
  have Yw : w.heap.size ≤ Y := by omega
  have nYR : Y ≠ R := by omega
  have nRY : R ≠ Y := by omega
  have nYX : Y ≠ X := by omega
  have nXY : X ≠ Y := by omega
  have nRX : R ≠ X := by omega
  have nXR : X ≠ R := by omega
  clear eY eR eX
  have nKX : K ≠ X := by omega
  have HK := Lib.hid (HK0.out.later hB0)
  have BY := Lib.hid (BY0.out.upto.below hB0)
  clear HK0 BY0
  refine wp_region_still_tail 2 (by kernel_rfl) (by kernel_rfl) ?_; simp only [List.take_succ_cons, List.take_zero, List.drop_succ_cons, List.drop_zero]; change wpStill _ _ (World.drew _) (fun a1 => wpList _ _ _ _ a1 (World.drew _)) _ _; repeat still_step
  refine wpStill_nil ?_
  have HP := has_take HY.out.drew.has (show 16 ≤ 32 by decide)
  have XF := HX.out.drew.free
  rw [nums_length] at XF
  refine wpList_copy rfl _ _ 26 rfl rfl rfl (copy_byt X 0 Y 0 16 16 16 32 16 _ kf _ rfl HP XF) ?_
  have OX := Lib.hid (Own.store (vs := nums .u8 kf 16) HX.out.drew (by rw [nums_length, nums_length]))
  have OY := Lib.hid (Own.far (o := 0) (vs := nums .u8 kf 16) HY.out.drew nYX)
  have OR := Lib.hid (Own.far (o := 0) (vs := nums .u8 kf 16) HR.out.drew nRX)
  have OK := Lib.hid (Has.far (o := 0) (vs := nums .u8 kf 16) HK.out.drew nKX)
  have OB := Lib.hid (BytU.far (o := 0) (vs := nums .u8 kf 16) BY.out.drew Xw)
  have hB1 := Below.setCells hB0.drew Xw (nums .u8 kf 16) 0
  clear HX HY HR HK BY HP XF hB0
  generalize W0.drew.setCells X 0 (nums .u8 kf 16) = y1 at *
  have hB0 := hB1
  clear hB1
  go_upto_region 3 with fail
  refine wp_region_lit ?_
  refine wpList_load_mid rfl 29 _ rfl X 0 rfl (nums .u8 kf 16) _ OX.out.cell Try.underlying29 rfl (by kernel_rfl) ?_
  go_wp2_with (fail)
  go_at_call 13
  refine (Clamp_any kf (fun i hi => KB.out i (by omega)) _).mono ?_
  rintro e y2 ⟨rfl, hb⟩
  have OXk := Lib.hid (OX.out.later hb)
  have OYk := Lib.hid (OY.out.later hb)
  have ORk := Lib.hid (OR.out.later hb)
  have OKk := Lib.hid (OK.out.later hb)
  clear OX OY OR OK
  have OX := OXk
  clear OXk
  have OY := OYk
  clear OYk
  have OR := ORk
  clear ORk
  have OK := OKk
  clear OKk
  replace OB := Lib.hid (OB.out.later hb)
  have hBn := Below.go hB0 hb
  clear hB0 hb
  have hB0 := hBn
  clear hBn
  have hst := store_nums (P := Try.prog) (n := 16) .u8 (clampF kf) OX.out rfl
  go_upto_region 4 with fail
  have obn := Lib.hid (BytU.far (o := 0) (vs := nums .u8 (clampF kf) 16) OB.out Xw)
  clear OB
  have OB := obn
  clear obn
  have OXn : Hid (Own X (nums .u8 (clampF kf) 16) (y2.setCells X 0 (nums .u8 (clampF kf) 16))) := Lib.hid (Own.store OX.out (by simp [nums_length]))
  have OYn : Hid (Own Y (nums .u8 kf 32) (y2.setCells X 0 (nums .u8 (clampF kf) 16))) := Lib.hid (Own.far (o := 0) (vs := (nums .u8 (clampF kf) 16)) OY.out nYX)
  have ORn : Hid (Own R (nums .u8 (fun _ => 0) 16) (y2.setCells X 0 (nums .u8 (clampF kf) 16))) := Lib.hid (Own.far (o := 0) (vs := (nums .u8 (clampF kf) 16)) OR.out nRX)
  have hB0n : Below w.heap.size w (y2.setCells X 0 (nums .u8 (clampF kf) 16)) := Below.setCells hB0 Xw (nums .u8 (clampF kf) 16) 0
  have OKn : Hid (Has K off [.slice p n c] (y2.setCells X 0 (nums .u8 (clampF kf) 16))) := Lib.hid (Has.far OK.out nKX)
  clear OK
  have OK := OKn
  clear OKn
  clear OX OY OR hB0
  generalize (y2.setCells X 0 (nums .u8 (clampF kf) 16)) = y3 at *
  have OX := OXn
  clear OXn
  have OY := OYn
  clear OYn
  have OR := ORn
  clear ORn
  have hB0 := hB0n
  clear hB0n
  clear hst
  go_wp2_with (fail)
  go_at_call 25
  refine (numberOf_any (clampF kf) X 0 16 16 (fun i hi => in_clampF (KB.out i (by omega))) (by decide) _ OX.out.has).mono ?_
  rintro e y4 ⟨rfl, hb⟩
  have OXk := Lib.hid (OX.out.later hb)
  have OYk := Lib.hid (OY.out.later hb)
  have ORk := Lib.hid (OR.out.later hb)
  have OKk := Lib.hid (OK.out.later hb)
  clear OX OY OR OK
  have OX := OXk
  clear OXk
  have OY := OYk
  clear OYk
  have OR := ORk
  clear ORk
  have OK := OKk
  clear OKk
  replace OB := Lib.hid (OB.out.later hb)
  have hBn := Below.go hB0 hb
  clear hB0 hb
  have hB0 := hBn
  clear hBn
  rw [show numB (clampF kf) 16 = facN kf from rfl]
  have FL := Lib.hid (facN_lt (fun i hi => KB.out i (Nat.lt_trans hi (by decide))))
  go_upto_region 6 with fail
  obtain ⟨y6, hW⟩ : ∃ y6, y6 = ((y4.alloc (.cells (nums .u64 (limb (facN kf)) 4).toArray 59)).alloc (.cells #[.int .u64 0, .int .u64 0, .int .u64 0, .int .u64 0] 59)) := ⟨_, rfl⟩
  have hBx : Below y4.heap.size y4 y6 := hW ▸ (Below.al (Below.al (Below.refl _ _)))
  have HF : Hid (Own y4.heap.size (nums .u64 (limb (facN kf)) 4) y6) := Lib.hid (hW ▸ (show Own y4.heap.size (nums .u64 (limb (facN kf)) 4) (y4.alloc (.cells (nums .u64 (limb (facN kf)) 4).toArray 59)) from Own.newAt (by simp)).alloc)
  have HS : Hid (Own (y4.heap.size + 1) (nums .u64 (fun _ => 0) 4) y6) := Lib.hid (hW ▸ (show Own (y4.heap.size + 1) (nums .u64 (fun _ => 0) 4) ((y4.alloc (.cells (nums .u64 (limb (facN kf)) 4).toArray 59)).alloc (.cells #[.int .u64 0, .int .u64 0, .int .u64 0, .int .u64 0] 59)) from Own.newAt (by simp)))
  rw [← hW]
  clear hW
  obtain ⟨S, eS⟩ : ∃ X, X = (y4.heap.size + 1) := ⟨_, rfl⟩
  rw [← eS] at HS ⊢
  have Sw : y4.heap.size ≤ S := by omega
  obtain ⟨F, eF⟩ : ∃ X, X = y4.heap.size := ⟨_, rfl⟩
  rw [← eF] at HF ⊢
  have Fw : y4.heap.size ≤ F := by omega
  have nFS : F ≠ S := by omega
  have nSF : S ≠ F := by omega
  clear eF eS
  have nFX : F ≠ X := by have := OX.out.lt; omega
  have nXF : X ≠ F := Ne.symm nFX
  have nFY : F ≠ Y := by have := OY.out.lt; omega
  have nYF : Y ≠ F := Ne.symm nFY
  have nFR : F ≠ R := by have := OR.out.lt; omega
  have nRF : R ≠ F := Ne.symm nFR
  have nFK : F ≠ K := by have := OK.out.lt; omega
  have nKF : K ≠ F := Ne.symm nFK
  have Fw2 : w.heap.size ≤ F := by have := hB0.size; omega
  clear Fw
  have Fw := Fw2
  clear Fw2
  have nSX : S ≠ X := by have := OX.out.lt; omega
  have nXS : X ≠ S := Ne.symm nSX
  have nSY : S ≠ Y := by have := OY.out.lt; omega
  have nYS : Y ≠ S := Ne.symm nSY
  have nSR : S ≠ R := by have := OR.out.lt; omega
  have nRS : R ≠ S := Ne.symm nSR
  have nSK : S ≠ K := by have := OK.out.lt; omega
  have nKS : K ≠ S := Ne.symm nSK
  have Sw2 : w.heap.size ≤ S := by have := hB0.size; omega
  clear Sw
  have Sw := Sw2
  clear Sw2
  have OXk := Lib.hid (OX.out.later hBx)
  have OYk := Lib.hid (OY.out.later hBx)
  have ORk := Lib.hid (OR.out.later hBx)
  have OKk := Lib.hid (OK.out.later hBx)
  clear OX OY OR OK
  have OX := OXk
  clear OXk
  have OY := OYk
  clear OYk
  have OR := ORk
  clear ORk
  have OK := OKk
  clear OKk
  replace OB := Lib.hid (OB.out.later hBx)
  have hB0n := Below.go hB0 hBx
  clear hB0 hBx
  have hB0 := hB0n
  clear hB0n
  have PA := OK.out.at 0 _ rfl
  rw [Nat.add_zero] at PA
  obtain ⟨m, em⟩ : ∃ m, m = (n + 15) / 16 := ⟨_, rfl⟩
  have n6 : (if 65536 < (n : Int) then 65536 else (n : Int)) = (n : Int) := by have := HN.out; rw [if_neg (by omega)]
  have Sl60 := HS.out.lt
  go_wp2_with (fail)
  go_at_call 12
  refine (Blocks_any f p n c n m n6 HNC.out HC.out em _ OB.out.byt).mono ?_
  rintro e y7 ⟨v, rfl, hrow, hb⟩
  obtain ⟨p3, c3, rfl, hc3⟩ := row_form hrow
  have NC3 := Lib.hid hc3
  have SZ := Lib.hid (show Below w.heap.size w y6 from hB0)
  have HFk := Lib.hid (HF.out.later hb)
  have HSk := Lib.hid (HS.out.later hb)
  have OXk := Lib.hid (OX.out.later hb)
  have OYk := Lib.hid (OY.out.later hb)
  have ORk := Lib.hid (OR.out.later hb)
  clear HF HS OX OY OR
  have HF := HFk
  clear HFk
  have HS := HSk
  clear HSk
  have OX := OXk
  clear OXk
  have OY := OYk
  clear OYk
  have OR := ORk
  clear ORk
  have HB := Lib.hid (Below.go hB0 hb)
  have HM := Lib.hid em
  have RG := Lib.hid (row_byg hrow)
  have Sl6 := Sl60
  clear hB0 hb hrow OK OB PA n6 hc3 OX em Sl60
  have y6s := SZ.out.size
  clear SZ
  have PB : Hid (∀ i, i < n → inB (f i)) := FB
  go_wp2_with (fail)
  obtain ⟨r, er⟩ : ∃ r, facN kf = r := ⟨_, rfl⟩
  rw [er] at HF FL
  have ER := Lib.hid er
  clear er
  go_loopw [23] (fun iv wr => ∃ (k : Nat), k ≤ m ∧ iv = .int .i64 k ∧ Hid (Below w.heap.size w wr) ∧ Hid (Own F (nums .u64 (limb r) 4) wr) ∧ Hid (Own S (nums .u64 (limb (horn r f n k)) 4) wr) ∧ Hid (Own Y (nums .u8 kf 32) wr) ∧ Hid (Own R (nums .u8 (fun _ => 0) 16) wr) ∧ Hid (ByG wr p3 (m * 17) (rowF f n) y6.heap.size)) (fun iv _ => (m - (intOf iv).toNat))
  case atStart => exact ⟨0, Nat.zero_le _, rfl, HB, HF, Lib.hid (by rw [show nums .u64 (limb (horn r f n 0)) 4 = nums .u64 (fun _ => 0) 4 from nums_congr _ fun j _ => by simp [limb, horn]]; exact HS.out), OY, OR, RG⟩
  case round =>
    clear HB HF HS OY OR RG
    obtain ⟨k, hk, rfl, HB, HF, HS, OY, OR, RG⟩ := hrel
    by_cases hlt : k < m
    · obtain ⟨G, rfl, hG, HG⟩ : ∃ G, p3 = some ⟨G, 0, none⟩ ∧ y6.heap.size ≤ G ∧ Has G 0 (nums .u8 (rowF f n) (m * 17)) wr := RG.out.resolve_left (by omega)
      have HBK : Hid (Has G (k * 17) (nums .u8 (blkB f n k) 17) wr) := Lib.hid (by
        have h := has_drop HG (show k * 17 + 17 ≤ m * 17 by have := Nat.mul_le_mul_right 17 (show k + 1 ≤ m from hlt); omega)
        rwa [Nat.zero_add, nums_congr (g := blkB f n k) .u8 (fun j hj => rowF_at f n k j hj)] at h)
      have ROWG := Lib.hid (show ByG wr (some ⟨G, 0, none⟩) (m * 17) (rowF f n) y6.heap.size from .inr ⟨G, rfl, hG, HG⟩)
      have k0 : (0 : Int) ≤ (k : Int) := by omega
      have k1 : (k : Int) < (m : Int) := by omega
      have k63 : (k : Int) + 1 ≤ 9223372036854775807 := by have := HM.out; have := HN.out; omega
      have HK := Lib.hid hlt
      clear HG RG hk
      go_upto_region 8 with fail
      refine wp_region_lit ?_
      refine wpList_plain rfl fun K_ hK => ?_
      go_simp
      refine hK _ _ ?_
      clear hK K_
      refine wpList_load_mid rfl 48 _ rfl G (k * 17) rfl (nums .u8 (blkB f n k) 17) _ HBK.out.cell Try.underlying48 rfl (by kernel_rfl) ?_
      go_upto_region 9 with fail
      have hB0 := HB.out
      clear HB
      obtain ⟨y8, hW⟩ : ∃ y8, y8 = (wr.alloc (.cells (nums .u8 (blkB f n k) 17).toArray 48)) := ⟨_, rfl⟩
      have hBx : Below wr.heap.size wr y8 := hW ▸ (Below.al (Below.refl _ _))
      have HBL : Hid (Own wr.heap.size (nums .u8 (blkB f n k) 17) y8) := Lib.hid (hW ▸ (show Own wr.heap.size (nums .u8 (blkB f n k) 17) (wr.alloc (.cells (nums .u8 (blkB f n k) 17).toArray 48)) from Own.newAt (by simp)))
      rw [← hW]
      clear hW
      obtain ⟨B_, eB_⟩ : ∃ X, X = wr.heap.size := ⟨_, rfl⟩
      rw [← eB_] at HBL ⊢
      have B_w : wr.heap.size ≤ B_ := by omega
      clear eB_
      have nB_F : B_ ≠ F := by have := HF.out.lt; omega
      have nFB_ : F ≠ B_ := Ne.symm nB_F
      have nB_S : B_ ≠ S := by have := HS.out.lt; omega
      have nSB_ : S ≠ B_ := Ne.symm nB_S
      have nB_Y : B_ ≠ Y := by have := OY.out.lt; omega
      have nYB_ : Y ≠ B_ := Ne.symm nB_Y
      have nB_R : B_ ≠ R := by have := OR.out.lt; omega
      have nRB_ : R ≠ B_ := Ne.symm nB_R
      have B_w2 : w.heap.size ≤ B_ := by have := hB0.size; omega
      clear B_w
      have B_w := B_w2
      clear B_w2
      have HFk := Lib.hid (HF.out.later hBx)
      have HSk := Lib.hid (HS.out.later hBx)
      have OYk := Lib.hid (OY.out.later hBx)
      have ORk := Lib.hid (OR.out.later hBx)
      clear HF HS OY OR
      have HF := HFk
      clear HFk
      have HS := HSk
      clear HSk
      have OY := OYk
      clear OYk
      have OR := ORk
      clear ORk
      replace ROWG := Lib.hid (ROWG.out.later hBx)
      clear HBK
      have hB0n := Below.go hB0 hBx
      clear hB0 hBx
      have hB0 := hB0n
      clear hB0n
      have CN := Lib.hid (fun w h => numberOf_any (blkB f n k) B_ 0 17 17 (fun i _ => in_blkB PB.out k i) (by decide) w h)
      rw [show numB (blkB f n k) 17 = blkN f n k from rfl] at CN
      have bl := blkN_lt PB.out k
      have hl := horn_lt r f n k
      have fl := FL.out
      have CP := Lib.hid (fun w => plus_any (horn r f n k) (blkN f n k) w)
      have CT := Lib.hid (fun w => times_any (horn r f n k + blkN f n k) r (by omega) w)
      have CR := Lib.hid (fun w => rest_any ((horn r f n k + blkN f n k) * r) (prod_lt hl bl fl) w)
      rw [show (horn r f n k + blkN f n k) * r % PP = horn r f n (k + 1) from rfl] at CR
      clear bl hl fl
      generalize (horn r f n k + blkN f n k) * r = n3 at *
      generalize horn r f n k + blkN f n k = n2 at *
      generalize blkN f n k = n1 at *
      obtain ⟨h1, eh1⟩ : ∃ h1, horn r f n (k + 1) = h1 := ⟨_, rfl⟩
      rw [eh1] at CR
      have EH := Lib.hid eh1
      clear eh1
      generalize horn r f n k = h0 at *
      refine wp_region_fun 8 (by kernel_rfl) (by kernel_rfl) rfl (fun s b => ⟨#[.pointer (some ⟨K, off, none⟩), (.agg (nums .u8 kf 32).toArray), undef, .pointer (some ⟨Y, 0, none⟩), .pointer (some ⟨R, 0, none⟩), .pointer (some ⟨X, 0, none⟩), .pointer (some ⟨F, 0, none⟩), .pointer (some ⟨S, 0, none⟩), undef, .pointer (some ⟨B_, 0, none⟩), .slice (some ⟨X, 0, none⟩) 16 16, .slice (some ⟨Y, 0, none⟩) 16 32, .int .i64 16, .agg (nums .u8 kf 16).toArray, .agg (nums .u8 (clampF kf) 16).toArray, .slice (some ⟨X, 0, none⟩) 16 16, (.agg (nums .u64 (limb (facN kf)) 4).toArray), .pointer (some ⟨K, off, none⟩), .pointer (some ⟨K, off, none⟩), .pointer (some ⟨K, off, none⟩), .slice p n c, .slice (some ⟨G, 0, none⟩) m c3, .int .i64 m, .int .i64 k, .bool true, .pointer (some ⟨G, (k * 17), none⟩), .agg (nums .u8 (blkB f n k) 17).toArray, s 27, s 28, s 29, s 30, s 31, s 32, s 33, u34, undef, undef, undef, undef, undef], []⟩) (fun d s b w => (d 7 = false → Below y8.heap.size y8 w) ∧ (d 0 = true → s 27 = (.agg (nums .u64 (limb h0) 4).toArray)) ∧ (d 1 = true → s 28 = .slice (some ⟨B_, 0, none⟩) 17 17) ∧ (d 2 = true → s 29 = (.agg (nums .u64 (limb n1) 4).toArray)) ∧ (d 3 = true → s 30 = (.agg (nums .u64 (limb n2) 4).toArray)) ∧ (d 4 = true → s 31 = (.agg (nums .u64 (limb r) 4).toArray)) ∧ (d 5 = true → s 32 = (.agg (nums .u64 (limb n3) 4).toArray)) ∧ (d 6 = true → s 33 = (.agg (nums .u64 (limb h1) 4).toArray)) ∧ (d 7 = true → ∀ j, j < 7 → d j = true) ∧ (d 7 = true → ∃ w2, Below y8.heap.size y8 w2 ∧ w = w2.setCells S 0 (nums .u64 (limb h1) 4))) rfl ?h0z1 (?stz1 : StepsF _ _ _ _ 8 _ _ [0, 1, 2, 3, 4, 5, 6, 7]) ?dnz1
      case h0z1 => exact ⟨fun _ => Below.drew (Below.refl _ _), (fun h => nomatch h), (fun h => nomatch h), (fun h => nomatch h), (fun h => nomatch h), (fun h => nomatch h), (fun h => nomatch h), (fun h => nomatch h), (fun h => nomatch h), (fun h => nomatch h)⟩
      case stz1 =>
        refine StepsF.cons (o := _) rfl (ws := []) (by kernel_rfl) (by decide) (fun d s b w hF hd hw K_ hK => ?_) ?_
        · have hk : d 7 = false := by cases e : d 7 with | false => rfl | true => exact absurd ((p8_ hF.out) e 0 (by decide)) (by simp [hd])
          have hB : Below y8.heap.size y8 w := (p0_ hF.out) hk
          refine step_load (by simp [Region.wanted]) 59 _ rfl S 0 rfl (nums .u64 (limb h0) 4) _ (HS.out.later hB).cell Try.underlying59 rfl (by kernel_rfl) ?_
          exact hK.out (ups s 27 ((.agg (nums .u64 (limb h0) 4).toArray))) b _ ⟨(fun _ => hB), (fun _ => rfl), (p2_ hF.out), (p3_ hF.out), (p4_ hF.out), (p5_ hF.out), (p6_ hF.out), (p7_ hF.out), (fun h => absurd ((p8_ hF.out) h 0 (by decide)) (by simp [hd])), (fun h => absurd ((p8_ hF.out) h 0 (by decide)) (by simp [hd]))⟩
        refine StepsF.cons (o := _) rfl (ws := []) (by kernel_rfl) (by decide) (fun d s b w hF hd hw K_ hK => ?_) ?_
        · have hk : d 7 = false := by cases e : d 7 with | false => rfl | true => exact absurd ((p8_ hF.out) e 1 (by decide)) (by simp [hd])
          have hB : Below y8.heap.size y8 w := (p0_ hF.out) hk
          dsimp only
          go_simp
          exact hK.out (ups s 28 (.slice (some ⟨B_, 0, none⟩) 17 17)) b _ ⟨(fun _ => hB), (p1_ hF.out), (fun _ => rfl), (p3_ hF.out), (p4_ hF.out), (p5_ hF.out), (p6_ hF.out), (p7_ hF.out), (fun h => absurd ((p8_ hF.out) h 1 (by decide)) (by simp [hd])), (fun h => absurd ((p8_ hF.out) h 1 (by decide)) (by simp [hd]))⟩
        refine StepsF.cons (o := _) rfl (ws := [1]) (by kernel_rfl) (by decide) (fun d s b w hF hd hw K_ hK => ?_) ?_
        · have hk : d 7 = false := by cases e : d 7 with | false => rfl | true => exact absurd ((p8_ hF.out) e 2 (by decide)) (by simp [hd])
          have hB : Below y8.heap.size y8 w := (p0_ hF.out) hk
          have e1 : s 28 = .slice (some ⟨B_, 0, none⟩) 17 17 := (p2_ hF.out) (hw 1 (by decide))
          dsimp only
          go_simp
          go_at_call 25
          refine (CN.out _ (HBL.out.later hB).has).mono ?_
          rintro e w1 ⟨rfl, hb⟩
          exact hK.out (ups (ups s 28 (.slice (some ⟨B_, 0, none⟩) 17 17)) 29 ((.agg (nums .u64 (limb n1) 4).toArray))) b _ ⟨(fun _ => (Below.go hB hb)), (p1_ hF.out), (fun _ => rfl), (fun _ => rfl), (p4_ hF.out), (p5_ hF.out), (p6_ hF.out), (p7_ hF.out), (fun h => absurd ((p8_ hF.out) h 2 (by decide)) (by simp [hd])), (fun h => absurd ((p8_ hF.out) h 2 (by decide)) (by simp [hd]))⟩
        refine StepsF.cons (o := _) rfl (ws := [0, 2, 2]) (by kernel_rfl) (by decide) (fun d s b w hF hd hw K_ hK => ?_) ?_
        · have hk : d 7 = false := by cases e : d 7 with | false => rfl | true => exact absurd ((p8_ hF.out) e 3 (by decide)) (by simp [hd])
          have hB : Below y8.heap.size y8 w := (p0_ hF.out) hk
          have e0 : s 27 = (.agg (nums .u64 (limb h0) 4).toArray) := (p1_ hF.out) (hw 0 (by decide))
          have e2 : s 29 = (.agg (nums .u64 (limb n1) 4).toArray) := (p3_ hF.out) (hw 2 (by decide))
          dsimp only
          go_simp
          go_at_call 28
          refine (CP.out _).mono ?_
          rintro e w1 ⟨rfl, hb⟩
          exact hK.out (ups (ups (ups s 27 ((.agg (nums .u64 (limb h0) 4).toArray))) 29 ((.agg (nums .u64 (limb n1) 4).toArray))) 30 ((.agg (nums .u64 (limb n2) 4).toArray))) b _ ⟨(fun _ => (Below.go hB hb)), (fun _ => rfl), (p2_ hF.out), (fun _ => rfl), (fun _ => rfl), (p5_ hF.out), (p6_ hF.out), (p7_ hF.out), (fun h => absurd ((p8_ hF.out) h 3 (by decide)) (by simp [hd])), (fun h => absurd ((p8_ hF.out) h 3 (by decide)) (by simp [hd]))⟩
        refine StepsF.cons (o := _) rfl (ws := []) (by kernel_rfl) (by decide) (fun d s b w hF hd hw K_ hK => ?_) ?_
        · have hk : d 7 = false := by cases e : d 7 with | false => rfl | true => exact absurd ((p8_ hF.out) e 4 (by decide)) (by simp [hd])
          have hB : Below y8.heap.size y8 w := (p0_ hF.out) hk
          refine step_load (by simp [Region.wanted]) 59 _ rfl F 0 rfl (nums .u64 (limb r) 4) _ (HF.out.later hB).cell Try.underlying59 rfl (by kernel_rfl) ?_
          exact hK.out (ups s 31 ((.agg (nums .u64 (limb r) 4).toArray))) b _ ⟨(fun _ => hB), (p1_ hF.out), (p2_ hF.out), (p3_ hF.out), (p4_ hF.out), (fun _ => rfl), (p6_ hF.out), (p7_ hF.out), (fun h => absurd ((p8_ hF.out) h 4 (by decide)) (by simp [hd])), (fun h => absurd ((p8_ hF.out) h 4 (by decide)) (by simp [hd]))⟩
        refine StepsF.cons (o := _) rfl (ws := [3, 4, 3]) (by kernel_rfl) (by decide) (fun d s b w hF hd hw K_ hK => ?_) ?_
        · have hk : d 7 = false := by cases e : d 7 with | false => rfl | true => exact absurd ((p8_ hF.out) e 5 (by decide)) (by simp [hd])
          have hB : Below y8.heap.size y8 w := (p0_ hF.out) hk
          have e3 : s 30 = (.agg (nums .u64 (limb n2) 4).toArray) := (p4_ hF.out) (hw 3 (by decide))
          have e4 : s 31 = (.agg (nums .u64 (limb r) 4).toArray) := (p5_ hF.out) (hw 4 (by decide))
          dsimp only
          go_simp
          go_at_call 27
          refine (CT.out _).mono ?_
          rintro e w1 ⟨rfl, hb⟩
          exact hK.out (ups (ups (ups s 30 ((.agg (nums .u64 (limb n2) 4).toArray))) 31 ((.agg (nums .u64 (limb r) 4).toArray))) 32 ((.agg (nums .u64 (limb n3) 4).toArray))) b _ ⟨(fun _ => (Below.go hB hb)), (p1_ hF.out), (p2_ hF.out), (p3_ hF.out), (fun _ => rfl), (fun _ => rfl), (fun _ => rfl), (p7_ hF.out), (fun h => absurd ((p8_ hF.out) h 5 (by decide)) (by simp [hd])), (fun h => absurd ((p8_ hF.out) h 5 (by decide)) (by simp [hd]))⟩
        refine StepsF.cons (o := _) rfl (ws := [5, 5]) (by kernel_rfl) (by decide) (fun d s b w hF hd hw K_ hK => ?_) ?_
        · have hk : d 7 = false := by cases e : d 7 with | false => rfl | true => exact absurd ((p8_ hF.out) e 6 (by decide)) (by simp [hd])
          have hB : Below y8.heap.size y8 w := (p0_ hF.out) hk
          have e5 : s 32 = (.agg (nums .u64 (limb n3) 4).toArray) := (p6_ hF.out) (hw 5 (by decide))
          dsimp only
          go_simp
          go_at_call 26
          refine (CR.out _).mono ?_
          rintro e w1 ⟨rfl, hb⟩
          exact hK.out (ups (ups s 32 ((.agg (nums .u64 (limb n3) 4).toArray))) 33 ((.agg (nums .u64 (limb h1) 4).toArray))) b _ ⟨(fun _ => (Below.go hB hb)), (p1_ hF.out), (p2_ hF.out), (p3_ hF.out), (p4_ hF.out), (p5_ hF.out), (fun _ => rfl), (fun _ => rfl), (fun h => absurd ((p8_ hF.out) h 6 (by decide)) (by simp [hd])), (fun h => absurd ((p8_ hF.out) h 6 (by decide)) (by simp [hd]))⟩
        refine StepsF.cons (o := _) rfl (ws := [6, 6, 0, 1, 2, 3, 4, 5, 6]) (by kernel_rfl) (by decide) (fun d s b w hF hd hw K_ hK => ?_) ?_
        · have hB : Below y8.heap.size y8 w := (p0_ hF.out) hd
          have e0 : s 27 = (.agg (nums .u64 (limb h0) 4).toArray) := (p1_ hF.out) (hw 0 (by decide))
          have e1 : s 28 = .slice (some ⟨B_, 0, none⟩) 17 17 := (p2_ hF.out) (hw 1 (by decide))
          have e2 : s 29 = (.agg (nums .u64 (limb n1) 4).toArray) := (p3_ hF.out) (hw 2 (by decide))
          have e3 : s 30 = (.agg (nums .u64 (limb n2) 4).toArray) := (p4_ hF.out) (hw 3 (by decide))
          have e4 : s 31 = (.agg (nums .u64 (limb r) 4).toArray) := (p5_ hF.out) (hw 4 (by decide))
          have e5 : s 32 = (.agg (nums .u64 (limb n3) 4).toArray) := (p6_ hF.out) (hw 5 (by decide))
          have e6 : s 33 = (.agg (nums .u64 (limb h1) 4).toArray) := (p7_ hF.out) (hw 6 (by decide))
          dsimp only
          have oz := HS.out.later hB
          have hst := store_nums (P := Try.prog) (n := 4) .u64 (limb h1) oz rfl
          have oX := HS.out.later hB
          clear oX
          go_simp
          exact hK.out (ups (ups (ups (ups (ups (ups (ups s 27 ((.agg (nums .u64 (limb h0) 4).toArray))) 28 (.slice (some ⟨B_, 0, none⟩) 17 17)) 29 ((.agg (nums .u64 (limb n1) 4).toArray))) 30 ((.agg (nums .u64 (limb n2) 4).toArray))) 31 ((.agg (nums .u64 (limb r) 4).toArray))) 32 ((.agg (nums .u64 (limb n3) 4).toArray))) 33 ((.agg (nums .u64 (limb h1) 4).toArray))) b _ ⟨(fun h => nomatch h), (fun _ => rfl), (fun _ => rfl), (fun _ => rfl), (fun _ => rfl), (fun _ => rfl), (fun _ => rfl), (fun _ => rfl), (fun _ j hj => by have hj2 := hw j (by simp; omega); simp [upd, hj2]), (fun _ => ⟨w, hB, rfl⟩)⟩
        exact StepsF.nil
      intro d s b z1 hF hall
      replace hF := Lib.hid hF
      obtain ⟨z1, hB, rfl⟩ := (q9_ hF.out) (hall 7 (by decide))
      try dsimp only
      have e0 : s 27 = (.agg (nums .u64 (limb h0) 4).toArray) := (p1_ hF.out) (hall 0 (by decide))
      have e1 : s 28 = .slice (some ⟨B_, 0, none⟩) 17 17 := (p2_ hF.out) (hall 1 (by decide))
      have e2 : s 29 = (.agg (nums .u64 (limb n1) 4).toArray) := (p3_ hF.out) (hall 2 (by decide))
      have e3 : s 30 = (.agg (nums .u64 (limb n2) 4).toArray) := (p4_ hF.out) (hall 3 (by decide))
      have e4 : s 31 = (.agg (nums .u64 (limb r) 4).toArray) := (p5_ hF.out) (hall 4 (by decide))
      have e5 : s 32 = (.agg (nums .u64 (limb n3) 4).toArray) := (p6_ hF.out) (hall 5 (by decide))
      have e6 : s 33 = (.agg (nums .u64 (limb h1) 4).toArray) := (p7_ hF.out) (hall 6 (by decide))
      rw [e0, e1, e2, e3, e4, e5, e6]
      clear hall hF e0 e1 e2 e3 e4 e5 e6
      clear d s b
      have o1 := Lib.hid (Own.store (vs := nums .u64 (limb h1) 4) (HS.out.later hB) rfl)
      have o2 := Lib.hid (Own.far (o := 0) (vs := nums .u64 (limb h1) 4) (HF.out.later hB) nFS)
      have o3 := Lib.hid (Own.far (o := 0) (vs := nums .u64 (limb h1) 4) (OY.out.later hB) nYS)
      have o4 := Lib.hid (Own.far (o := 0) (vs := nums .u64 (limb h1) 4) (OR.out.later hB) nRS)
      have o5 := Lib.hid (ByG.far (o := 0) (vs := nums .u64 (limb h1) 4) (ROWG.out.later hB) Sl6)
      have o6 := Lib.hid (Below.setCells (Below.go hB0 hB) Sw (nums .u64 (limb h1) 4) 0)
      clear HF HS OY OR HBL ROWG hB0 hB CN CP CT CR
      go_wp2_with (fail)
      go_roundw
      case rel => (first | exact ⟨k + 1, HK.out, by go_num, o6, o2, by rw [EH.out]; exact o1, o3, o4, o5⟩ | ((repeat apply Exists.intro); exact ⟨⟨k + 1, HK.out, by go_num, o6, o2, by rw [EH.out]; exact o1, o3, o4, o5⟩, rfl⟩))
      case measure => (have := HK.out; simp [intOf]; omega)
    · have hkm : k = m := by omega
      subst hkm
      have hl := horn_lt r f n k
      clear hk
      have SN : Hid (∀ w, Has Y 16 (nums .u8 (fun i => kf (16 + i)) 16) w → Calls Try.prog 25 #[.slice (some ⟨Y, 16, none⟩) 16 16] w fun e w' => e = .returned (.agg (nums .u64 (limb (numB (fun i => kf (16 + i)) 16)) 4).toArray) ∧ Below w.heap.size w w') := Lib.hid (fun w h => numberOf_any (fun i => kf (16 + i)) Y 16 16 16 (fun i hi => KB.out _ (by omega)) (by decide) w h)
      have CP := Lib.hid (fun w => plus_any (horn r f n k) (numB (fun i => kf (16 + i)) 16) w)
      have CL := Lib.hid (fun w => lowest_any (horn r f n k + numB (fun i => kf (16 + i)) 16) w)
      have TE : tagN kf f n = horn r f n k + numB (fun i => kf (16 + i)) 16 := by rw [← ER.out, HM.out]; rfl
      rw [← TE] at CP CL
      clear TE
      have HD : Hid (∀ w, Own Y (nums .u8 kf 32) w → Has Y 16 (nums .u8 (fun i => kf (16 + i)) 16) w) := Lib.hid fun w h => (has_drop h.has (show 16 + 16 ≤ 32 by decide))
      obtain ⟨T_, eT⟩ : ∃ T_, tagN kf f n = T_ := ⟨_, rfl⟩
      rw [eT] at CP CL
      have ET := Lib.hid eT
      clear eT
      generalize horn r f n k = h0 at *
      generalize numB (fun i => kf (16 + i)) 16 = s0_ at *
      clear hl
      go_upto_region 11 with fail
      refine wp_region_fun 6 (by kernel_rfl) (by kernel_rfl) rfl (fun s b => ⟨#[.pointer (some ⟨K, off, none⟩), (.agg (nums .u8 kf 32).toArray), undef, .pointer (some ⟨Y, 0, none⟩), .pointer (some ⟨R, 0, none⟩), .pointer (some ⟨X, 0, none⟩), .pointer (some ⟨F, 0, none⟩), .pointer (some ⟨S, 0, none⟩), undef, u9, .slice (some ⟨X, 0, none⟩) 16 16, .slice (some ⟨Y, 0, none⟩) 16 32, .int .i64 16, .agg (nums .u8 kf 16).toArray, .agg (nums .u8 (clampF kf) 16).toArray, .slice (some ⟨X, 0, none⟩) 16 16, (.agg (nums .u64 (limb (facN kf)) 4).toArray), .pointer (some ⟨K, off, none⟩), .pointer (some ⟨K, off, none⟩), .pointer (some ⟨K, off, none⟩), .slice p n c, .slice p3 k c3, .int .i64 k, .int .i64 k, .bool false, u25, u26, u27, u28, u29, u30, u31, u32, u33, u34, s 35, s 36, s 37, s 38, s 39], []⟩) (fun d s b w => (d 5 = false → Below wr.heap.size wr w) ∧ (d 0 = true → s 35 = (.agg (nums .u64 (limb h0) 4).toArray)) ∧ (d 1 = true → s 36 = .slice (some ⟨Y, 16, none⟩) 16 16) ∧ (d 2 = true → s 37 = (.agg (nums .u64 (limb s0_) 4).toArray)) ∧ (d 3 = true → s 38 = (.agg (nums .u64 (limb T_) 4).toArray)) ∧ (d 4 = true → s 39 = .agg (nums .u8 (byt T_) 16).toArray) ∧ (d 5 = true → ∀ j, j < 5 → d j = true) ∧ (d 5 = true → ∃ w2, Below wr.heap.size wr w2 ∧ w = w2.setCells R 0 (nums .u8 (byt T_) 16))) rfl ?h0z2 (?stz2 : StepsF _ _ _ _ 6 _ _ [0, 1, 2, 3, 4, 5]) ?dnz2
      case h0z2 => exact ⟨fun _ => Below.drew (Below.refl _ _), (fun h => nomatch h), (fun h => nomatch h), (fun h => nomatch h), (fun h => nomatch h), (fun h => nomatch h), (fun h => nomatch h), (fun h => nomatch h)⟩
      case stz2 =>
        refine StepsF.cons (o := _) rfl (ws := []) (by kernel_rfl) (by decide) (fun d s b w hF hd hw K_ hK => ?_) ?_
        · have hk : d 5 = false := by cases e : d 5 with | false => rfl | true => exact absurd ((p6_ hF.out) e 0 (by decide)) (by simp [hd])
          have hB : Below wr.heap.size wr w := (p0_ hF.out) hk
          refine step_load (by simp [Region.wanted]) 59 _ rfl S 0 rfl (nums .u64 (limb h0) 4) _ (HS.out.later hB).cell Try.underlying59 rfl (by kernel_rfl) ?_
          exact hK.out (ups s 35 ((.agg (nums .u64 (limb h0) 4).toArray))) b _ ⟨(fun _ => hB), (fun _ => rfl), (p2_ hF.out), (p3_ hF.out), (p4_ hF.out), (p5_ hF.out), (fun h => absurd ((p6_ hF.out) h 0 (by decide)) (by simp [hd])), (fun h => absurd ((p6_ hF.out) h 0 (by decide)) (by simp [hd]))⟩
        refine StepsF.cons (o := _) rfl (ws := []) (by kernel_rfl) (by decide) (fun d s b w hF hd hw K_ hK => ?_) ?_
        · have hk : d 5 = false := by cases e : d 5 with | false => rfl | true => exact absurd ((p6_ hF.out) e 1 (by decide)) (by simp [hd])
          have hB : Below wr.heap.size wr w := (p0_ hF.out) hk
          dsimp only
          go_simp
          exact hK.out (ups s 36 (.slice (some ⟨Y, 16, none⟩) 16 16)) b _ ⟨(fun _ => hB), (p1_ hF.out), (fun _ => rfl), (p3_ hF.out), (p4_ hF.out), (p5_ hF.out), (fun h => absurd ((p6_ hF.out) h 1 (by decide)) (by simp [hd])), (fun h => absurd ((p6_ hF.out) h 1 (by decide)) (by simp [hd]))⟩
        refine StepsF.cons (o := _) rfl (ws := [1]) (by kernel_rfl) (by decide) (fun d s b w hF hd hw K_ hK => ?_) ?_
        · have hk : d 5 = false := by cases e : d 5 with | false => rfl | true => exact absurd ((p6_ hF.out) e 2 (by decide)) (by simp [hd])
          have hB : Below wr.heap.size wr w := (p0_ hF.out) hk
          have e1 : s 36 = .slice (some ⟨Y, 16, none⟩) 16 16 := (p2_ hF.out) (hw 1 (by decide))
          dsimp only
          go_simp
          go_at_call 25
          refine (SN.out _ (HD.out _ (OY.out.later hB))).mono ?_
          rintro e w1 ⟨rfl, hb⟩
          exact hK.out (ups (ups s 36 (.slice (some ⟨Y, 16, none⟩) 16 16)) 37 ((.agg (nums .u64 (limb s0_) 4).toArray))) b _ ⟨(fun _ => (Below.go hB hb)), (p1_ hF.out), (fun _ => rfl), (fun _ => rfl), (p4_ hF.out), (p5_ hF.out), (fun h => absurd ((p6_ hF.out) h 2 (by decide)) (by simp [hd])), (fun h => absurd ((p6_ hF.out) h 2 (by decide)) (by simp [hd]))⟩
        refine StepsF.cons (o := _) rfl (ws := [0, 2, 2]) (by kernel_rfl) (by decide) (fun d s b w hF hd hw K_ hK => ?_) ?_
        · have hk : d 5 = false := by cases e : d 5 with | false => rfl | true => exact absurd ((p6_ hF.out) e 3 (by decide)) (by simp [hd])
          have hB : Below wr.heap.size wr w := (p0_ hF.out) hk
          have e0 : s 35 = (.agg (nums .u64 (limb h0) 4).toArray) := (p1_ hF.out) (hw 0 (by decide))
          have e2 : s 37 = (.agg (nums .u64 (limb s0_) 4).toArray) := (p3_ hF.out) (hw 2 (by decide))
          dsimp only
          go_simp
          go_at_call 28
          refine (CP.out _).mono ?_
          rintro e w1 ⟨rfl, hb⟩
          exact hK.out (ups (ups (ups s 35 ((.agg (nums .u64 (limb h0) 4).toArray))) 37 ((.agg (nums .u64 (limb s0_) 4).toArray))) 38 ((.agg (nums .u64 (limb T_) 4).toArray))) b _ ⟨(fun _ => (Below.go hB hb)), (fun _ => rfl), (p2_ hF.out), (fun _ => rfl), (fun _ => rfl), (p5_ hF.out), (fun h => absurd ((p6_ hF.out) h 3 (by decide)) (by simp [hd])), (fun h => absurd ((p6_ hF.out) h 3 (by decide)) (by simp [hd]))⟩
        refine StepsF.cons (o := _) rfl (ws := [3, 3]) (by kernel_rfl) (by decide) (fun d s b w hF hd hw K_ hK => ?_) ?_
        · have hk : d 5 = false := by cases e : d 5 with | false => rfl | true => exact absurd ((p6_ hF.out) e 4 (by decide)) (by simp [hd])
          have hB : Below wr.heap.size wr w := (p0_ hF.out) hk
          have e3 : s 38 = (.agg (nums .u64 (limb T_) 4).toArray) := (p4_ hF.out) (hw 3 (by decide))
          dsimp only
          go_simp
          go_at_call 29
          refine (CL.out _).mono ?_
          rintro e w1 ⟨rfl, hb⟩
          exact hK.out (ups (ups s 38 ((.agg (nums .u64 (limb T_) 4).toArray))) 39 (.agg (nums .u8 (byt T_) 16).toArray)) b _ ⟨(fun _ => (Below.go hB hb)), (p1_ hF.out), (p2_ hF.out), (p3_ hF.out), (fun _ => rfl), (fun _ => rfl), (fun h => absurd ((p6_ hF.out) h 4 (by decide)) (by simp [hd])), (fun h => absurd ((p6_ hF.out) h 4 (by decide)) (by simp [hd]))⟩
        refine StepsF.cons (o := _) rfl (ws := [4, 4, 0, 1, 2, 3, 4]) (by kernel_rfl) (by decide) (fun d s b w hF hd hw K_ hK => ?_) ?_
        · have hB : Below wr.heap.size wr w := (p0_ hF.out) hd
          have e0 : s 35 = (.agg (nums .u64 (limb h0) 4).toArray) := (p1_ hF.out) (hw 0 (by decide))
          have e1 : s 36 = .slice (some ⟨Y, 16, none⟩) 16 16 := (p2_ hF.out) (hw 1 (by decide))
          have e2 : s 37 = (.agg (nums .u64 (limb s0_) 4).toArray) := (p3_ hF.out) (hw 2 (by decide))
          have e3 : s 38 = (.agg (nums .u64 (limb T_) 4).toArray) := (p4_ hF.out) (hw 3 (by decide))
          have e4 : s 39 = .agg (nums .u8 (byt T_) 16).toArray := (p5_ hF.out) (hw 4 (by decide))
          dsimp only
          have oz := OR.out.later hB
          have hst := store_nums (P := Try.prog) (n := 16) .u8 (byt T_) oz rfl
          have oX := OR.out.later hB
          clear oX
          go_simp
          exact hK.out (ups (ups (ups (ups (ups s 35 ((.agg (nums .u64 (limb h0) 4).toArray))) 36 (.slice (some ⟨Y, 16, none⟩) 16 16)) 37 ((.agg (nums .u64 (limb s0_) 4).toArray))) 38 ((.agg (nums .u64 (limb T_) 4).toArray))) 39 (.agg (nums .u8 (byt T_) 16).toArray)) b _ ⟨(fun h => nomatch h), (fun _ => rfl), (fun _ => rfl), (fun _ => rfl), (fun _ => rfl), (fun _ => rfl), (fun _ j hj => by have hj2 := hw j (by simp; omega); simp [upd, hj2]), (fun _ => ⟨w, hB, rfl⟩)⟩
        exact StepsF.nil
      intro d s b z2 hF hall
      replace hF := Lib.hid hF
      obtain ⟨z2, hB, rfl⟩ := (q7_ hF.out) (hall 5 (by decide))
      try dsimp only
      have e0 : s 35 = (.agg (nums .u64 (limb h0) 4).toArray) := (p1_ hF.out) (hall 0 (by decide))
      have e1 : s 36 = .slice (some ⟨Y, 16, none⟩) 16 16 := (p2_ hF.out) (hall 1 (by decide))
      have e2 : s 37 = (.agg (nums .u64 (limb s0_) 4).toArray) := (p3_ hF.out) (hall 2 (by decide))
      have e3 : s 38 = (.agg (nums .u64 (limb T_) 4).toArray) := (p4_ hF.out) (hall 3 (by decide))
      have e4 : s 39 = .agg (nums .u8 (byt T_) 16).toArray := (p5_ hF.out) (hall 4 (by decide))
      rw [e0, e1, e2, e3, e4]
      clear hall hF e0 e1 e2 e3 e4
      clear d s b
      have OR1 := Lib.hid (Own.store (vs := nums .u8 (byt T_) 16) (OR.out.later hB) rfl)
      have hB1 := Below.setCells (Below.go HB.out hB) Rw (nums .u8 (byt T_) 16) 0
      go_wp2_with (fail)
      have hL := run_loadVar_mid (P := Try.prog) _ R 0 29 (nums .u8 (byt T_) 16) _ OR1.out.cell Try.underlying29 rfl (by kernel_rfl)
      exact bodyPost_ret (v := .agg (nums .u8 (byt T_) 16).toArray) (res_cell Try.results17 rfl hL) rfl ⟨by rw [ET.out], hB1⟩
end Go.Proofs.Ytbofihejegbfhaa
