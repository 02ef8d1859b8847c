/- The document's numbers: half. -/
import Derived.Test.YtlfchlholabijaaRK
namespace Go.Proofs.Ytlfchlholabijaa
set_option linter.unusedVariables false
set_option maxRecDepth 2000
open Go.RowKit
attribute [local go_sem] setCell_twice setCell_pair

theorem toInt_small (v : BitVec 64) (h : v.toNat < 9223372036854775808) : v.toInt = (v.toNat : Int) := by
  rw [BitVec.toInt_eq_toNat_cond, if_pos (by omega)]
theorem or_nat (a b : Nat) (ha : a < 2 ^ 32) (hb : b < 2 ^ 32) : bits .or .i64 (a : Int) (b : Int) = ((a ||| b : Nat) : Int) := by
  have e : bits .or .i64 (a : Int) (b : Int) = (BitVec.ofInt 64 (a : Int) ||| BitVec.ofInt 64 (b : Int)).toInt := toInt_wrap _
  have hl : a ||| b < 2 ^ 32 := Nat.or_lt_two_pow ha hb
  have n : (BitVec.ofInt 64 (a : Int) ||| BitVec.ofInt 64 (b : Int)).toNat = a ||| b := by
    rw [BitVec.toNat_or, BitVec.ofInt_natCast, BitVec.ofInt_natCast, BitVec.toNat_ofNat, BitVec.toNat_ofNat, Nat.mod_eq_of_lt (by omega), Nat.mod_eq_of_lt (by omega)]
  rw [e, toInt_small _ (by rw [n]; omega), n]
theorem and_nat (a b : Nat) (ha : a < 2 ^ 32) (hb : b < 2 ^ 32) : bits .and .i64 (a : Int) (b : Int) = ((a &&& b : Nat) : Int) := by
  have e : bits .and .i64 (a : Int) (b : Int) = (BitVec.ofInt 64 (a : Int) &&& BitVec.ofInt 64 (b : Int)).toInt := toInt_wrap _
  have hl : a &&& b < 2 ^ 32 := Nat.and_lt_two_pow a hb
  have n : (BitVec.ofInt 64 (a : Int) &&& BitVec.ofInt 64 (b : Int)).toNat = a &&& b := by
    rw [BitVec.toNat_and, BitVec.ofInt_natCast, BitVec.ofInt_natCast, BitVec.toNat_ofNat, BitVec.toNat_ofNat, Nat.mod_eq_of_lt (by omega), Nat.mod_eq_of_lt (by omega)]
  rw [e, toInt_small _ (by rw [n]; omega), n]
theorem and_1 (x : Int) (h0 : 0 ≤ x) (h1 : x ≤ 65535) : bits .and .i64 x 1 = x % 2 := by
  obtain ⟨n, rfl⟩ := Int.eq_ofNat_of_zero_le h0
  have h := and_nat n 1 (by omega) (by omega)
  rw [Nat.and_one_is_mod] at h
  rw [show (1 : Int) = ((1 : Nat) : Int) by rfl, h]
  omega
theorem or_15 (a m : Int) (h0 : 0 ≤ a) (h1 : a ≤ 32767) (m0 : 0 ≤ m) (m1 : m ≤ 1) : bits .or .i64 a (m * 32768) = a + m * 32768 := by
  obtain ⟨n, rfl⟩ := Int.eq_ofNat_of_zero_le h0
  obtain ⟨k, rfl⟩ := Int.eq_ofNat_of_zero_le m0
  have hn : n < 2 ^ 15 := by omega
  rw [show ((k : Int) * 32768) = ((k * 32768 : Nat) : Int) by omega, or_nat n _ (by omega) (by omega), Nat.or_comm]
  have h := Nat.two_pow_add_eq_or_of_lt hn k
  rw [show k * 32768 = 2 ^ 15 * k by omega, ← h]
  omega

theorem Kept.setOther {F : List (Nat × Nat × Value)} {X : World} {B o : Nat} (h : Kept F X) (hn : ∀ t, t ∈ F → t.1 ≠ B) (v : Value) : Kept F (X.setCell ⟨B, o, none⟩ v) := fun t ht => by
  obtain ⟨h1, h2, h3⟩ := h t ht
  have ne : (⟨B, o, none⟩ : Addr) ≠ ⟨t.1, t.2.1, none⟩ := addr_ne fun e => hn t ht e.symm
  exact ⟨by simpa using h1, (World.cell?_setCell_other _ _ _ _ ne).trans h2, by simpa using h3⟩
theorem rowIs_below {w w' : World} {b : Nat} {t : TypeId} {n : Nat} {f : Nat → Value} (h : w.rowIs b t n f) (hb : Below w.heap.size w w') : w'.rowIs b t n f := h.of_block (hb.block b h.lt)

/-- the digits of the half -/
def halfD (ds : List Int) (j : Nat) : Int := ds.getD j 0 / 2 + ds.getD (j + 1) 0 % 2 * 32768
def halfL (ds : List Int) : List Int := (List.range ds.length).map (halfD ds)
theorem halfL_getD (ds : List Int) (i : Nat) (hi : i < ds.length) : (halfL ds).getD i 0 = halfD ds i := by
  rw [List.getD_eq_getElem?_getD, halfL, List.getElem?_map, List.getElem?_range hi]; rfl
theorem halfD_bd (ds : List Int) (h : ∀ i, 0 ≤ ds.getD i 0 ∧ ds.getD i 0 ≤ 65535) (j : Nat) : 0 ≤ halfD ds j ∧ halfD ds j ≤ 65535 := by
  have a := h j; have b := h (j + 1); unfold halfD; omega
theorem V_half (f g : Nat → Int) (n : Nat) (h : ∀ j, g j = f j / 2 + f (j + 1) % 2 * 32768) : 2 * V g n + f 0 % 2 = V f n + f n % 2 * 65536 ^ n := by
  induction n with
  | zero => simp [V]
  | succ n ih =>
    rw [V, V, h n, Int.pow_succ]
    have e := Int.mul_ediv_add_emod (f n) 2
    generalize (65536 : Int) ^ n = P at *
    generalize f n / 2 = q at *
    generalize f n % 2 = r at *
    generalize f (n + 1) % 2 = s at *
    rw [← e]
    grind
theorem V_congr (f g : Nat → Int) (n : Nat) (h : ∀ j, j < n → f j = g j) : V f n = V g n := by
  have := V_same f g 0 n (Nat.zero_le _) fun j _ hj => h j hj
  simp only [V] at this; omega
theorem val_half (ds : List Int) (h : ∀ i, 0 ≤ ds.getD i 0 ∧ ds.getD i 0 ≤ 65535) : val (halfL ds) = val ds / 2 := by
  have e1 := val_V (halfL ds) ds.length (by simp [halfL])
  have e2 := val_V ds ds.length (Nat.le_refl _)
  have e3 := V_half (fun i => ds.getD i 0) (fun i => halfD ds i) ds.length fun j => rfl
  have e4 : V (fun i => (halfL ds).getD i 0) ds.length = V (fun i => halfD ds i) ds.length := V_congr _ _ _ fun j hj => halfL_getD ds j hj
  have e5 : ds.getD ds.length 0 = 0 := by simp
  rw [e1, e4, e2]
  rw [e5] at e3
  have := h 0
  omega

theorem half_next (ds : List Int) (j k : Nat) (v : Int) (h : halfD ds k = v) : (if j = k then Value.int .i64 v else .int .i64 (if j < k then halfD ds j else 0)) = .int .i64 (if j < k + 1 then halfD ds j else 0) := by
  by_cases e : j = k
  · subst e; rw [if_pos rfl, if_pos (by omega), h]
  · rw [if_neg e]
    by_cases e2 : j < k
    · rw [if_pos e2, if_pos (by omega)]
    · rw [if_neg e2, if_neg (by omega)]

set_option maxHeartbeats 4000000 in
theorem half_core (b : Bool) (p : Option Addr) (n c : Nat) (ds : List Int) (z : Int) (w : World) (hsl : SlR w (.slice p n c) ds) (hn : n ≤ 1000) (dg : ∀ i, 0 ≤ ds.getD i 0 ∧ ds.getD i 0 ≤ 65535) (hz : val ds / 2 = z) :
    Calls Try.prog 30 #[.agg #[.bool b, .slice p n c]] w (NumE w z) := by
  have hmk := run_make_row' (P := Try.prog) 27 3 (.int .i64 0) 8 Try.underlying27 infoI rfl .i64 .i64 n (by omega) (by omega)
  have LEN := Lib.hid hsl.len.1
  have SL := Lib.hid hsl; clear hsl
  have DG := Lib.hid dg; clear dg
  have HZ := Lib.hid hz; clear hz
  go_enter Try.func30, Try.ntmps30
  go_upto_region 2 with (fail)
  have hB0 : Below w.heap.size w (((w.alloc (.cells #[.bool b, .slice p n c] 29)).alloc (.cells #[.bool false, .slice none 0 0] 29)).alloc (.cells (madeCells #[.int .i64 0] n) 3)) := (by repeat (first | exact Below.refl _ _ | assumption | refine below_drewN ?_ _ | refine Below.drew ?_ | refine Below.alloc ?_ (by first | omega | (simp; done) | (simp; omega)) _ | refine Below.setCell ?_ (by first | (simp; done) | (simp; omega)) _))
  have K0 : Kept [(w.heap.size, 0, .bool b), (w.heap.size, 1, .slice p n c), (w.heap.size + 1, 0, .bool false), (w.heap.size + 1, 1, .slice none 0 0)] (((w.alloc (.cells #[.bool b, .slice p n c] 29)).alloc (.cells #[.bool false, .slice none 0 0] 29)).alloc (.cells (madeCells #[.int .i64 0] n) 3)) := by
    refine .cons ?_ ?_ ?_ (.cons ?_ ?_ ?_ (.cons ?_ ?_ ?_ (.cons ?_ ?_ ?_ .nil))) <;> first | (simp; done) | (simp; omega) | (simp [go_sem]; done)
  have hrow := World.rowIs_made ((w.alloc (.cells #[.bool b, .slice p n c] 29)).alloc (.cells #[.bool false, .slice none 0 0] 29)) (.int .i64 0) n 3
  rw [show ((w.alloc (.cells #[.bool b, .slice p n c] 29)).alloc (.cells #[.bool false, .slice none 0 0] 29)).heap.size = w.heap.size + 1 + 1 by simp] at hrow
  obtain ⟨B, hBe⟩ : ∃ B, B = w.heap.size + 1 + 1 := ⟨_, rfl⟩
  obtain ⟨R, hRe⟩ : ∃ R, R = w.heap.size + 1 := ⟨_, rfl⟩
  obtain ⟨A, hAe⟩ : ∃ A, A = w.heap.size := ⟨_, rfl⟩
  rw [← hBe] at hrow ⊢
  rw [← hRe] at K0 ⊢
  rw [← hAe] at K0 ⊢
  generalize ((w.alloc (.cells #[.bool b, .slice p n c] 29)).alloc (.cells #[.bool false, .slice none 0 0] 29)).alloc (.cells (madeCells #[.int .i64 0] n) 3) = W0 at *
  have nBA : ¬ B = A := by omega
  have nBR : ¬ B = R := by omega
  have nRA : ¬ R = A := by omega
  have hwB : w.heap.size ≤ B := by omega
  have hwR : w.heap.size ≤ R := by omega
  have KO : ∀ X o v, Kept [(A, 0, .bool b), (A, 1, .slice p n c), (R, 0, .bool false), (R, 1, .slice none 0 0)] X → Kept [(A, 0, .bool b), (A, 1, .slice p n c), (R, 0, .bool false), (R, 1, .slice none 0 0)] (X.setCell ⟨B, o, none⟩ v) := fun X o v h => h.setOther (fun t ht => by simp at ht; rcases ht with rfl | rfl | rfl | rfl <;> (simp; omega)) v
  have KO' := Lib.hid KO
  clear KO
  have K0' := Lib.hid K0
  have hrow' := Lib.hid hrow
  have HB0 := Lib.hid hB0
  clear hBe hRe hAe K0 hrow hB0
  go_wp2_with (fail)
  go_loopw [4] (fun i wr => ∃ k : Nat, k ≤ n ∧ i = .int .i64 k ∧ Hid (wr.rowIs B 3 n (fun j => .int .i64 (if j < k then halfD ds j else 0))) ∧ Hid (Kept [(A, 0, .bool b), (A, 1, .slice p n c), (R, 0, .bool false), (R, 1, .slice none 0 0)] wr) ∧ Hid (Below w.heap.size w wr)) (fun i _ => (n - (intOf i).toNat))
  case atStart => exact ⟨0, by omega, rfl, (hrow'.out.congr fun j _ => by simp), K0'.out, HB0.out⟩
  case round =>
    obtain ⟨k, hk, rfl, hr, hK, hB⟩ := hrel
    have q0 := (hK.out.get A 0 (.bool b) (by simp)).2.1
    have q1 := (hK.out.get A 1 (.slice p n c) (by simp)).2.1
    have sz := hB.out.size
    by_cases hlt : k < n
    · obtain ⟨blk, rfl⟩ : ∃ blk, p = some ⟨blk, 0, none⟩ := by
        rcases SL.out with ⟨e, _⟩ | ⟨blk, n', c', e, _⟩
        · cases e; omega
        · cases e; exact ⟨blk, rfl⟩
      obtain ⟨hblk, hcell⟩ : blk < w.heap.size ∧ w.cell? ⟨blk, k, none⟩ = some (.int .i64 (ds.getD k 0)) := by
        rcases SL.out with ⟨e, _⟩ | ⟨blk', n', c', e, _, _, _, h5, h6⟩
        · cases e
        · cases e; exact ⟨h5, h6 k hlt⟩
      have nBb : ¬ B = blk := by omega
      have cd := (hB.out.cell (p := ⟨blk, k, none⟩) hblk).trans hcell
      obtain ⟨J, hJ⟩ : ∃ J : Nat, k + 1 = J := ⟨_, rfl⟩
      have hJ1 : (k : Int) + 1 = (J : Int) := by omega
      have wJ : IntKind.i64.wrap (J : Int) = (J : Int) := IntWalk.i64_in _ (by omega)
      have hx := DG.out k
      have hy := DG.out J
      have e1 := and_1 (ds.getD J 0) hy.1 hy.2
      have e3 := or_15 (ds.getD k 0 / 2) (ds.getD J 0 % 2) (by omega) (by omega) (by omega) (by omega)
      have e2 : IntKind.i64.wrap (ds.getD J 0 % 2 * 32768) = ds.getD J 0 % 2 * 32768 := IntWalk.i64_in _ (by omega)
      have hv : ds.getD k 0 / 2 + ds.getD J 0 % 2 * 32768 = halfD ds k := by rw [← hJ]; rfl
      have dgc := fun wx (hx : Below w.heap.size w wx) => digit_any b (.slice (some ⟨blk, 0, none⟩) n c) ds J (by omega) wx (SL.out.later hx (Nat.le_refl _))
      rw [hv] at e3
      obtain ⟨v, hv'⟩ : ∃ v, halfD ds k = v := ⟨_, rfl⟩
      rw [hv'] at e3
      have HV := Lib.hid hv'
      clear hv' hv
      generalize ds.getD k 0 = x at *
      generalize ds.getD J 0 = y at *
      generalize hm : y % 2 = m at *
      generalize hs : m * 32768 = s at *
      generalize hq : x / 2 = q at *
      have DC := Lib.hid dgc
      have i0 : (0 : Int) ≤ (k : Int) := by omega
      have i1 : (k : Int) < (n : Int) := by omega
      have fB := hr.out.frozen k
      have cB := hr.out.cell hlt
      simp only [Nat.lt_irrefl, if_false] at cB
      have HJ := Lib.hid hJ
      clear dgc hcell hx hy hJ
      go_wp2_with (fail)
      go_region_held3 (fun w' => w'.cell? ⟨A, 0, none⟩ = some (.bool b) ∧ w'.cell? ⟨A, 1, none⟩ = some (.slice (some ⟨blk, 0, none⟩) n c) ∧ w'.cell? ⟨blk, k, none⟩ = some (.int .i64 x)) (first | exact ⟨by assumption, by assumption, by assumption⟩ | (refine ⟨?_, ?_, ?_⟩ <;> (rw [World.cell?_setCell_other _ _ _ _ (by first | exact addr_ne nBA | exact addr_ne nBb)]; assumption)) | go_keep) ((go_at_call 18; (with_reducible refine (DC.out _ ?hx).mono ?_); (case hx => exact below_drewN hB.out 1); rintro e w4 ⟨rfl, h4⟩; have b4 : Below wr.heap.size wr w4 := below_step (by repeat (first | exact Below.refl _ _ | assumption | refine below_drewN ?_ _ | refine Below.drew ?_ | refine Below.alloc ?_ (by first | omega | (simp; done) | (simp; omega)) _ | refine Below.setCell ?_ (by first | (simp; done) | (simp; omega)) _)) h4; have K4 := Lib.hid (hK.out.step b4); have R4 := Lib.hid (rowIs_below hr.out b4); have a04 := (K4.out.get A 0 (.bool b) (by simp)).2.1; have a14 := (K4.out.get A 1 (.slice (some ⟨blk, 0, none⟩) n c) (by simp)).2.1; have d4 := (b4.cell (p := ⟨blk, k, none⟩) (by simp; omega)).trans cd; have f4 := R4.out.frozen k; have c4 := R4.out.cell hlt; simp only [Nat.lt_irrefl, if_false] at c4))
      have nr := Lib.hid (R4.out.set k (.int .i64 v))
      have nK := Lib.hid (KO'.out w4 k (.int .i64 v) K4.out)
      have nB := Lib.hid (show Below w.heap.size w (w4.setCell ⟨B, k, none⟩ (.int .i64 v)) from Below.setCell (below_step hB.out b4) hwB _)
      go_wp2_with (fail)
      go_roundw
      case rel => exact ⟨k + 1, by omega, by go_num, nr.out.congr fun j _ => half_next ds j k v HV.out, nK, nB⟩
      case measure => simp [intOf]; omega
    · obtain rfl : k = n := by omega
      have sl : SlR wr (.slice (some ⟨B, 0, none⟩) k k) (halfL ds) := .inr ⟨B, k, k, rfl, by simp [halfL, LEN.out], Nat.le_refl _, by omega, hr.out.lt, fun i hi => by
        rw [hr.out.cell hi, halfL_getD ds i (by rw [LEN.out]; exact hi), if_pos hi]⟩
      have dh : ∀ i, 0 ≤ (halfL ds).getD i 0 ∧ (halfL ds).getD i 0 ≤ 65535 := fun i => by
        by_cases hi : i < ds.length
        · rw [halfL_getD ds i hi]; exact halfD_bd ds DG.out i
        · rw [List.getD_eq_getElem?_getD, List.getElem?_eq_none (by simp [halfL]; omega)]; simp
      have tr := Lib.hid (trim_z false _ (halfL ds) z wr (show (if false = true then -val (halfL ds) else val (halfL ds)) = z by simp [val_half ds DG.out, HZ.out]) sl dh)
      have K0x := hK
      clear sl dh
      go_wp2_with (fail); go_at_call 19; refine (tr.out).mono ?_; rintro e w4 ⟨v, rfl, hv, h4⟩
      have K4 := Lib.hid (hK.out.step h4)
      have b4 : Below w.heap.size w w4 := below_step hB.out h4
      obtain ⟨b', p', n', c', rfl⟩ := hv.form
      have r0 := (K4.out.get R 0 (.bool false) (by simp)).2.1
      have r1 := (K4.out.get R 1 (.slice none 0 0) (by simp)).2.1
      have e0 := (K4.out.get R 0 (.bool false) (by simp)).2.2
      have e1 := (K4.out.get R 1 (.slice none 0 0) (by simp)).2.2
      have hf := Lib.hid (hv.boxed r0 (.bool b') (.slice p' n' c'))
      have s4 := b4.size
      clear hv
      go_wp2_with (fail)
      exact bodyPost_ret (v := .agg #[.bool b', .slice p' n' c']) (by simp [results, Try.results30, go_sem, r0, r1]) rfl ⟨_, rfl, hf.out, (by repeat (first | exact Below.refl _ _ | assumption | refine below_drewN ?_ _ | refine Below.drew ?_ | refine Below.alloc ?_ (by first | omega | (simp; done) | (simp; omega)) _ | refine Below.setCell ?_ (by first | (simp; done) | (simp; omega)) _))⟩

/-- half: of what is not below 0, with not too many digits -/
theorem half_any (v : Value) (z : Int) (w : World) (h : DigR w v z) (hz : 0 ≤ z) : Calls Try.prog 30 #[v] w (NumE w (z / 2)) := by
  obtain ⟨b, s, ds, rfl, hs, hd, hl, rfl⟩ := h
  obtain ⟨p, n, c, rfl⟩ := hs.form
  have vn := val_nonneg ds fun i => (hd i).1
  refine half_core b p n c ds _ w hs (by rw [← hs.len.1]; exact hl) hd ?_
  cases b
  · simp
  · simp at hz ⊢
    have : val ds = 0 := by omega
    rw [this]; rfl
end Go.Proofs.Ytlfchlholabijaa
