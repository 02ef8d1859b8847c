/- The document's root: umbraref01.Root. -/
import Derived.Test.YtlfchlholabijaaTC
import Derived.Test.YtlfchlholabijaaWS
import Derived.Deep.DeepCutAuto
import Derived.Deep.RegionHeld3
namespace Go.Proofs.Ytlfchlholabijaa
set_option linter.unusedVariables false
set_option maxRecDepth 2000
set_option linter.unusedSimpArgs false
open Go.RowKit
attribute [local go_sem] setCell_twice setCell_pair
attribute [local go_sem ↓] eqW neqW

theorem len8 (ds : List Int) (hd : ∀ i, 0 ≤ ds.getD i 0 ∧ ds.getD i 0 ≤ 65535) (hc : ds = [] ∨ ds.getD (ds.length - 1) 0 ≠ 0) (hv : val ds < 65536 ^ 8) : ds.length ≤ 8 := by
  refine Nat.not_lt.1 fun h => ?_
  rcases hc with rfl | hc
  · simp at h
  obtain ⟨n, hn⟩ : ∃ n, ds.length = n + 1 := ⟨ds.length - 1, by omega⟩
  rw [val_V ds (n + 1) (by omega), V] at hv
  rw [hn, Nat.add_sub_cancel] at hc
  have h1 := V_lt (fun i => ds.getD i 0) n hd
  have h2 := hd n
  have hp : (0 : Int) < 65536 ^ n := Int.pow_pos (by omega)
  have h3 : 1 * (65536 : Int) ^ n ≤ ds.getD n 0 * 65536 ^ n := Int.mul_le_mul_of_nonneg_right (by omega) (by omega)
  have h4 : (65536 : Int) ^ 8 ≤ 65536 ^ n := by
    have : (65536 : Nat) ^ 8 ≤ 65536 ^ n := Nat.pow_le_pow_right (by omega) (by omega)
    have e : ∀ k : Nat, ((65536 ^ k : Nat) : Int) = 65536 ^ k := fun k => by rw [Int.natCast_pow]; rfl
    rw [← e, ← e]; omega
  omega

/-- r is the root of a but for k places -/
structure RootI (a r : Int) (k : Nat) : Prop where
  r0 : 0 ≤ r
  le : r * r ≤ a
  lt : a < (r + 2 ^ k) * (r + 2 ^ k)
theorem two_le (j m : Nat) (h : j ≤ m) : (1 : Int) ≤ 2 ^ j ∧ (2 : Int) ^ j ≤ 2 ^ m := by
  have e : ∀ k : Nat, ((2 ^ k : Nat) : Int) = 2 ^ k := fun k => by rw [Int.natCast_pow]; rfl
  have a : (1 : Nat) ≤ 2 ^ j := Nat.pow_pos (by omega)
  have b : (2 : Nat) ^ j ≤ 2 ^ m := Nat.pow_le_pow_right (by omega) h
  rw [← e, ← e]; omega
theorem RootI.small {a r : Int} {k : Nat} (h : RootI a r k) (ha : a < 170141183460469231731687303715884105728) : r < 18446744073709551616 := by
  refine Int.not_le.1 fun h1 => ?_
  have := Int.mul_le_mul h1 h1 (by omega) h.r0
  have := h.le
  omega
theorem RootI.next {a r : Int} {j : Nat} (h : RootI a r (j + 1)) (ha : a < 170141183460469231731687303715884105728) (hj : j ≤ 64) : 0 ≤ r + 2 ^ j ∧ r + 2 ^ j ≤ 36893488147419103232 ∧ ((2 ^ j : Int).natAbs : Int) < BIG ∧ (r.natAbs : Int) < BIG ∧ ((r + 2 ^ j).natAbs : Int) < BIG ∧ (((r + 2 ^ j) * (r + 2 ^ j)).natAbs : Int) < BIG ∧ (a.natAbs : Int) < BIG := by
  have p := two_le j 64 hj
  have s := h.small ha
  have r0 := h.r0
  have a0 : 0 ≤ a := Int.le_trans (Int.mul_nonneg r0 r0) h.le
  have e : (2 : Int) ^ 64 = 18446744073709551616 := by decide
  rw [e] at p
  generalize (2 : Int) ^ j = P at *
  have n0 : 0 ≤ r + P := by omega
  have n1 : r + P ≤ 36893488147419103232 := by omega
  have n2 := Int.mul_le_mul n1 n1 n0 (by omega)
  have n3 := Int.mul_nonneg n0 n0
  generalize (r + P) * (r + P) = Q at *
  refine ⟨n0, n1, ?_, ?_, ?_, ?_, ?_⟩ <;> (unfold BIG; omega)
theorem RootI.yes {a r : Int} {j : Nat} (h : RootI a r (j + 1)) (hj : (r + 2 ^ j) * (r + 2 ^ j) ≤ a) : RootI a (r + 2 ^ j) j := by
  have p := two_le j j (Nat.le_refl _)
  have r0 := h.r0
  refine ⟨by omega, hj, ?_⟩
  have := h.lt
  rw [Int.pow_succ] at this
  rw [show r + 2 ^ j + 2 ^ j = r + 2 ^ j * 2 by omega]
  exact this
theorem RootI.no {a r : Int} {j : Nat} (h : RootI a r (j + 1)) (hj : a < (r + 2 ^ j) * (r + 2 ^ j)) : RootI a r j := ⟨h.r0, h.le, hj⟩
theorem RootI.start (ds : List Int) (n : Nat) (hn : ds.length = n) (hd : ∀ i, 0 ≤ ds.getD i 0 ∧ ds.getD i 0 ≤ 65535) : RootI (val ds) 0 (8 * n + 1) := by
  have v := V_lt (fun i => ds.getD i 0) n hd
  rw [← val_V ds n (by omega)] at v
  refine ⟨by omega, by omega, ?_⟩
  have e : (0 + (2 : Int) ^ (8 * n + 1)) * (0 + 2 ^ (8 * n + 1)) = 4 * 65536 ^ n := by
    rw [Int.zero_add, ← Int.pow_add, show 8 * n + 1 + (8 * n + 1) = 2 + 16 * n by omega, Int.pow_add, Int.pow_mul]
    rfl
  rw [e]
  have := v.2
  omega

set_option maxHeartbeats 4000000 in
theorem Root_below (p : Option Addr) (n c : Nat) (w : World) : Calls Try.prog 12 #[.agg #[.bool true, .slice p n c]] w (NumE w 0) := by
  go_enter Try.func12, Try.ntmps12
  go_wp2_with (fail)
  exact bodyPost_ret (v := .agg #[.bool false, .slice none 0 0]) (by simp [results, Try.results12, go_sem]) rfl ⟨_, rfl, NumR.zero _, (by repeat (first | exact Below.refl _ _ | assumption | refine below_drewN ?_ _ | refine Below.drew ?_ | refine Below.alloc ?_ (by first | omega | (simp; done) | (simp; omega)) _ | refine Below.setCell ?_ (by first | (simp; done) | (simp; omega)) _))⟩

set_option maxHeartbeats 8000000 in
theorem Root_core (p : Option Addr) (n c : Nat) (ds : List Int) (z : Int) (w : World) (hs : SlR w (.slice p n c) ds) (hn : n ≤ 8) (hd : ∀ i, 0 ≤ ds.getD i 0 ∧ ds.getD i 0 ≤ 65535) (hv : val ds < 170141183460469231731687303715884105728)
    (num : NumR w (.agg #[.bool false, .slice p n c]) (val ds)) : Calls Try.prog 12 #[.agg #[.bool false, .slice p n c]] w fun e w' => ∃ r, RootI (val ds) r 0 ∧ NumE w r e w' := by
  have st := Lib.hid (RootI.start ds n hs.len.1 hd)
  have NA := Lib.hid num
  have HV := Lib.hid hv
  have k1 : 8 * (n : Int) = ((8 * n : Nat) : Int) := by omega
  obtain ⟨K, hK⟩ : ∃ K : Nat, 8 * n = K := ⟨_, rfl⟩
  have hK8 : K ≤ 64 := by omega
  rw [hK] at k1 st
  have k2 : IntKind.i64.wrap (K : Int) = (K : Int) := IntWalk.i64_in _ (by omega)
  clear hs hd hv num hK hn
  generalize val ds = a at *
  go_enter Try.func12, Try.ntmps12
  go_wp2_with (fail)
  obtain ⟨W0, hW⟩ : ∃ W0, W0 = (((w.alloc (.cells #[.bool false, .slice p n c] 29)).alloc (.cells #[.bool false, .slice none 0 0] 29)).alloc (.cells #[.bool false, .slice none 0 0] 29)) := ⟨_, rfl⟩
  have hB0 : Below w.heap.size w W0 := hW ▸ (Below.al (Below.al (Below.al (Below.refl _ _))))
  have HA : Hid (Own w.heap.size [.bool false, .slice p n c] W0) := Lib.hid (hW ▸ (Own.newAt (by simp)).alloc.alloc)
  have HR : Hid (Own (w.heap.size + 1) [.bool false, .slice none 0 0] W0) := Lib.hid (hW ▸ (Own.newAt (by simp)).alloc)
  have HC : Hid (Own ((w.heap.size + 1) + 1) [.bool false, .slice none 0 0] W0) := Lib.hid (hW ▸ (Own.newAt (by simp)))
  rw [← hW]
  clear hW
  obtain ⟨C, eC⟩ : ∃ X, X = ((w.heap.size + 1) + 1) := ⟨_, rfl⟩
  rw [← eC] at HC ⊢
  have Cw : w.heap.size ≤ C := by omega
  obtain ⟨R, eR⟩ : ∃ X, X = (w.heap.size + 1) := ⟨_, rfl⟩
  rw [← eR] at HR ⊢
  have Rw : w.heap.size ≤ R := by omega
  obtain ⟨A, eA⟩ : ∃ X, X = w.heap.size := ⟨_, rfl⟩
  rw [← eA] at HA ⊢
  have Aw : w.heap.size ≤ A := by omega
  have nAR : A ≠ R := by omega
  have nRA : R ≠ A := by omega
  have nAC : A ≠ C := by omega
  have nCA : C ≠ A := by omega
  have nRC : R ≠ C := by omega
  have nCR : C ≠ R := by omega
  clear eA eR eC
  have HB0 := Lib.hid hB0
  have HNA : Hid (∀ wx, Below w.heap.size w wx → NumR wx (.agg #[.bool false, .slice p n c]) a) := Lib.hid fun wx h => NA.out.later h (Nat.le_refl _)
  clear hB0 NA
  go_loopw [4] (fun iv wr => ∃ (k : Nat) (r i : Int) (b3 : Bool) (p3 : Option Addr) (m3 c3 : Nat), k ≤ K + 1 ∧ iv = .int .i64 i ∧ i = (k : Int) - 1 ∧ Hid (RootI a r k) ∧ Hid (Own A [.bool false, .slice p n c] wr) ∧ Hid (Own R [.bool false, .slice none 0 0] wr) ∧ Hid (Own C [.bool b3, .slice p3 m3 c3] wr) ∧ Hid (NumR wr (.agg #[.bool b3, .slice p3 m3 c3]) r) ∧ Hid (Below w.heap.size w wr)) (fun iv _ => (intOf iv + 1).toNat)
  case atStart => exact ⟨K + 1, 0, (K : Int), false, none, 0, 0, by omega, rfl, by omega, st, HA, HR, HC, Lib.hid (NumR.zero _), HB0⟩
  case round =>
    clear HA HR HC HB0 st
    obtain ⟨k, r, i, b3, p3, m3, c3, hk, rfl, hi, hI, hA, hR, hC, hN, hB⟩ := hrel
    have sz := hB.out.size
    by_cases hk0 : k = 0
    · subst hk0
      obtain rfl : i = -1 := by omega
      clear hi hk
      have oC := hC.out
      have C0 := oC.at 0 _ rfl
      have C1 := oC.at 1 _ rfl
      have Cl := oC.lt
      clear oC
      have oR := hR.out
      have R0 := oR.at 0 _ rfl
      have Rf0 := oR.ok 0 (by simp)
      have R1 := oR.at 1 _ rfl
      have Rf1 := oR.ok 1 (by simp)
      have Rl := oR.lt
      clear oR
      have hf := Lib.hid (hN.out.boxed R0 (.bool b3) (.slice p3 m3 c3))
      have hw := hB.out
      clear hN hC hR hA
      go_wp2_with (fail)
      exact bodyPost_ret (v := .agg #[.bool b3, .slice p3 m3 c3]) (by simp [results, Try.results12, go_sem, R0, R1, Rf0, Rf1]) rfl ⟨r, hI.out, _, rfl, hf.out, by first | exact ((by repeat (first | exact Below.refl _ _ | assumption | refine below_drewN ?_ _ | refine Below.drew ?_ | refine Below.alloc ?_ (by first | omega | (simp; done) | (simp; omega)) _ | refine Below.setCell ?_ (by first | (simp; done) | (simp; omega)) _))) | (repeat (first | (with_reducible assumption) | (with_reducible refine Below.setCell ?_ (by first | assumption | (simp; omega)) _)))⟩
    · obtain ⟨j, rfl⟩ : ∃ j, k = j + 1 := ⟨k - 1, by omega⟩
      obtain rfl : i = (j : Int) := by omega
      clear hi hk0
      have j0 : (0 : Int) ≤ (j : Int) := by omega
      obtain ⟨e1, e2, e3, e4, e5, e6, e7⟩ := hI.out.next HV.out (by omega)
      have pw := Lib.hid (fun w => power_any j (by omega) w)
      have sm := Lib.hid (fun w u v hu hv => refSum_any u v r (2 ^ j) w hu hv e4 e3)
      have tm := Lib.hid (fun w u hu => times_any u u (r + 2 ^ j) (r + 2 ^ j) w hu hu e5 e5)
      have ls := Lib.hid (fun w u v hu hv => less_any u v ((r + 2 ^ j) * (r + 2 ^ j)) a w hu hv e6 e7)
      have yes := Lib.hid hI.out.yes
      have no := Lib.hid hI.out.no
      clear hI e1 e2 e3 e4 e5 e6 e7
      generalize (2 : Int) ^ j = P at *
      generalize r + P = Y at *
      generalize hQ : Y * Y = Q at *
      have HBo := hB
      clear hB
      go_upto_region 7 with (fail)
      refine wp_region_fun 6 (by kernel_rfl) (by kernel_rfl) rfl (fun s b => ⟨#[.agg #[.bool false, .slice p n c], .pointer (some ⟨A, 0, none⟩), .pointer (some ⟨R, 0, none⟩), .pointer (some ⟨C, 0, none⟩), .int .i64 (j : Int), s 5, .agg #[.bool false, .slice none 0 0], .pointer (some ⟨A, 0, none⟩), .bool false, undef, .pointer (some ⟨A, 1, none⟩), .slice p n c, .int .i64 (n : Int), .int .i64 (K : Int), .int .i64 (j : Int), .bool true, u16, u17, s 18, s 19, s 20, s 21, u22, u23, u24, u25, u26, u27, u28, undef], []⟩) (fun d s b w => (Below wr.heap.size wr w) ∧ (d 0 = true → s 18 = .agg #[.bool b3, .slice p3 m3 c3]) ∧ (d 1 = true → s 19 = .int .i64 (j : Int)) ∧ (d 2 = true → d 5 = false → NumR w (s 20) P) ∧ (d 3 = true → d 5 = false → NumR w (s 21) Y) ∧ (d 4 = true → s 5 = .pointer (some ⟨(b 4), 0, none⟩) ∧ wr.heap.size ≤ b 4) ∧ (d 4 = true → d 5 = false → Own (b 4) [.bool false, .slice none 0 0] w) ∧ (d 5 = true → ∃ bT pT mT cT, Own (b 4) [.bool bT, .slice pT mT cT] w ∧ NumR w (.agg #[.bool bT, .slice pT mT cT]) Y) ∧ (d 5 = true → d 4 = true) ∧ (d 5 = true → d 2 = true) ∧ (d 5 = true → d 3 = true)) rfl ?h0w5 (?stw5 : StepsF _ _ _ _ 6 _ _ [0, 1, 2, 3, 4, 5]) ?dnw5
      case h0w5 => exact ⟨Below.drew (Below.refl _ _), (fun h => nomatch h), (fun h => nomatch h), (fun h => nomatch h), (fun h => nomatch h), (fun h => nomatch h), (fun h => nomatch h), (fun h => nomatch h), (fun h => nomatch h), (fun h => nomatch h), (fun h => nomatch h)⟩
      case stw5 =>
        refine StepsF.cons (o := _) rfl (ws := []) (by kernel_rfl) (by decide) (fun d s b w hF hd hw K hK => ?_) ?_
        · have hB : Below wr.heap.size wr w := (p0_ hF.out)
          dsimp only
          have oC := hC.out.later hB
          have C0 := oC.at 0 _ rfl
          have C1 := oC.at 1 _ rfl
          clear oC
          go_simp
          exact hK.out (ups s 18 (.agg #[.bool b3, .slice p3 m3 c3])) b _ ⟨hB, (fun _ => rfl), (p2_ hF.out), (p3_ hF.out), (p4_ hF.out), (p5_ hF.out), (p6_ hF.out), (p7_ hF.out), (p8_ hF.out), (p9_ hF.out), (q10_ hF.out)⟩
        refine StepsF.cons (o := _) rfl (ws := []) (by kernel_rfl) (by decide) (fun d s b w hF hd hw K hK => ?_) ?_
        · have hB : Below wr.heap.size wr w := (p0_ hF.out)
          dsimp only
          go_simp
          exact hK.out (ups s 19 (.int .i64 (j : Int))) b _ ⟨hB, (p1_ hF.out), (fun _ => rfl), (p3_ hF.out), (p4_ hF.out), (p5_ hF.out), (p6_ hF.out), (p7_ hF.out), (p8_ hF.out), (p9_ hF.out), (q10_ hF.out)⟩
        refine StepsF.cons (o := _) rfl (ws := [1]) (by kernel_rfl) (by decide) (fun d s b w hF hd hw K hK => ?_) ?_
        · have hB : Below wr.heap.size wr w := (p0_ hF.out)
          have e1 : s 19 = .int .i64 (j : Int) := (p2_ hF.out) (hw 1 (by decide))
          dsimp only
          go_simp
          go_at_call 16
          refine (pw.out _).mono ?_
          rintro e w1 ⟨v, rfl, hv, hb⟩
          exact hK.out (ups (ups s 19 (.int .i64 (j : Int))) 20 (v)) b _ ⟨(Below.go hB hb), (p1_ hF.out), (fun _ => rfl), (fun _ _ => hv), (fun h0 h1 => ((p4_ hF.out) h0 h1).later hb (Nat.le_refl _)), (p5_ hF.out), (fun h0 h1 => ((p6_ hF.out) h0 h1).later hb), (fun h => absurd ((p9_ hF.out) h) (by simp [hd])), (p8_ hF.out), (fun _ => rfl), (q10_ hF.out)⟩
        refine StepsF.cons (o := _) rfl (ws := [0, 2, 2]) (by kernel_rfl) (by decide) (fun d s b w hF hd hw K hK => ?_) ?_
        · have hB : Below wr.heap.size wr w := (p0_ hF.out)
          have e0 : s 18 = .agg #[.bool b3, .slice p3 m3 c3] := (p1_ hF.out) (hw 0 (by decide))
          dsimp only
          go_simp
          go_at_call 26
          refine (sm.out _ _ _ (hN.out.later hB (Nat.le_refl _)) ((p3_ hF.out) (hw 2 (by decide)) (by cases e : d 5 with | false => rfl | true => exact absurd ((q10_ hF.out) e) (by simp [hd])))).mono ?_
          rintro e w1 ⟨v, rfl, hv, hb⟩
          exact hK.out (ups (ups s 18 (.agg #[.bool b3, .slice p3 m3 c3])) 21 (v)) b _ ⟨(Below.go hB hb), (fun _ => rfl), (p2_ hF.out), (fun h0 h1 => ((p3_ hF.out) h0 h1).later hb (Nat.le_refl _)), (fun _ _ => hv), (p5_ hF.out), (fun h0 h1 => ((p6_ hF.out) h0 h1).later hb), (fun h => absurd ((q10_ hF.out) h) (by simp [hd])), (p8_ hF.out), (p9_ hF.out), (fun _ => rfl)⟩
        refine StepsF.cons (o := _) rfl (ws := []) (by kernel_rfl) (by decide) (fun d s b w hF hd hw K hK => ?_) ?_
        · have hB : Below wr.heap.size wr w := (p0_ hF.out)
          dsimp only
          go_simp
          exact hK.out (ups s 5 (.pointer (some ⟨w.heap.size, 0, none⟩))) (ups b 4 w.heap.size) _ ⟨(hB.alloc hB.size _), (p1_ hF.out), (p2_ hF.out), (fun h0 h1 => ((p3_ hF.out) h0 h1).later (Below.al (Below.refl _ _)) (Nat.le_refl _)), (fun h0 h1 => ((p4_ hF.out) h0 h1).later (Below.al (Below.refl _ _)) (Nat.le_refl _)), (fun _ => ⟨rfl, hB.size⟩), (fun _ _ => Own.newAt rfl), (fun h => absurd ((p8_ hF.out) h) (by simp [hd])), (fun _ => rfl), (p9_ hF.out), (q10_ hF.out)⟩
        refine StepsF.cons (o := _) rfl (ws := [4, 3, 3, 0, 1, 2, 3, 4]) (by kernel_rfl) (by decide) (fun d s b w hF hd hw K hK => ?_) ?_
        · have hB : Below wr.heap.size wr w := (p0_ hF.out)
          have e0 : s 18 = .agg #[.bool b3, .slice p3 m3 c3] := (p1_ hF.out) (hw 0 (by decide))
          have e1 : s 19 = .int .i64 (j : Int) := (p2_ hF.out) (hw 1 (by decide))
          have e4 : s 5 = .pointer (some ⟨(b 4), 0, none⟩) := ((p5_ hF.out) (hw 4 (by decide))).1
          have le4 : wr.heap.size ≤ b 4 := ((p5_ hF.out) (hw 4 (by decide))).2
          dsimp only
          have o4 := (p6_ hF.out) (hw 4 (by decide)) hd
          have fr0 := o4.ok 0 (by simp)
          have fr1 := o4.ok 1 (by simp)
          have ce0 := o4.at 0 _ rfl
          have ce1 := o4.at 1 _ rfl
          have nx := ((p4_ hF.out) (hw 3 (by decide)) hd)
          obtain ⟨bT, pT, mT, cT, eT⟩ := nx.form
          rw [eT] at nx
          rw [eT]
          go_simp
          exact hK.out (ups (ups (ups (ups s 18 (.agg #[.bool b3, .slice p3 m3 c3])) 19 (.int .i64 (j : Int))) 5 (.pointer (some ⟨(b 4), 0, none⟩))) 21 (.agg #[.bool bT, .slice pT mT cT])) b _ ⟨(Below.setCells hB le4 [.bool bT, .slice pT mT cT] 0), (fun _ => rfl), (fun _ => rfl), (fun _ h => nomatch h), (fun _ h => nomatch h), (fun _ => ⟨rfl, le4⟩), (fun _ h => nomatch h), (fun _ => ⟨bT, pT, mT, cT, (Own.store (vs := [.bool bT, .slice pT mT cT]) o4 rfl), nx.boxed ce0 _ _⟩), (fun _ => hw 4 (by decide)), (fun _ => hw 2 (by decide)), (fun _ => hw 3 (by decide))⟩
        exact StepsF.nil
      intro d s b w5 hF hall
      replace hF := Lib.hid hF
      have hB : Below wr.heap.size wr w5 := (p0_ hF.out)
      try dsimp only
      have e0 : s 18 = .agg #[.bool b3, .slice p3 m3 c3] := (p1_ hF.out) (hall 0 (by decide))
      have e1 : s 19 = .int .i64 (j : Int) := (p2_ hF.out) (hall 1 (by decide))
      have e4 : s 5 = .pointer (some ⟨(b 4), 0, none⟩) := ((p5_ hF.out) (hall 4 (by decide))).1
      have le4 : wr.heap.size ≤ b 4 := ((p5_ hF.out) (hall 4 (by decide))).2
      have f5 := (p7_ hF.out) (hall 5 (by decide))
      rw [e0, e1, e4]
      clear hall hF e0 e1 e4
      obtain ⟨T, hz⟩ : ∃ x, x = b 4 := ⟨_, rfl⟩
      rw [← hz] at le4 f5 ⊢
      clear hz
      obtain ⟨q20, hz⟩ : ∃ x, x = s 20 := ⟨_, rfl⟩
      rw [← hz]
      clear hz
      obtain ⟨q21, hz⟩ : ∃ x, x = s 21 := ⟨_, rfl⟩
      rw [← hz]
      clear hz
      clear d s b
      obtain ⟨bT, pT, mT, cT, hT0, nT0⟩ := f5
      have HT := Lib.hid hT0; have NT := Lib.hid nT0
      have HA5 := Lib.hid (hA.out.later hB); have HR5 := Lib.hid (hR.out.later hB); have HC5 := Lib.hid (hC.out.later hB)
      have NC := Lib.hid (hN.out.later hB (Nat.le_refl _))
      have HB5 := Lib.hid (Below.go HBo.out hB)
      have nTA : T ≠ A := by have := hA.out.lt; omega
      have nTC : T ≠ C := by have := hC.out.lt; omega
      have wj : IntKind.i64.wrap ((j : Int) - 1) = (j : Int) - 1 := IntWalk.i64_in _ (by omega)
      clear hT0 nT0 hA hR hC hN HBo hB sz le4 pw sm hQ
      by_cases hq : Q ≤ a
      · obtain ⟨cr, hcr, hle⟩ : ∃ cr, cmpI Q a = cr ∧ cr ≤ 0 := ⟨_, rfl, by unfold cmpI; split <;> (try split) <;> omega⟩
        have ls2 := ls.out
        rw [hcr] at ls2
        replace ls := Lib.hid ls2
        clear ls2 hcr
        go_upto_region 8 with (fail)
        refine wp_region_fun 6 (by kernel_rfl) (by kernel_rfl) rfl (fun s b => ⟨#[.agg #[.bool false, .slice p n c], .pointer (some ⟨A, 0, none⟩), .pointer (some ⟨R, 0, none⟩), .pointer (some ⟨C, 0, none⟩), .int .i64 (j : Int), .pointer (some ⟨T, 0, none⟩), .agg #[.bool false, .slice none 0 0], .pointer (some ⟨A, 0, none⟩), .bool false, undef, .pointer (some ⟨A, 1, none⟩), .slice p n c, .int .i64 (n : Int), .int .i64 (K : Int), .int .i64 (j : Int), .bool true, u16, u17, .agg #[.bool b3, .slice p3 m3 c3], .int .i64 (j : Int), q20, q21, s 22, s 23, s 24, s 25, s 26, s 27, u28, undef], []⟩) (fun d s b w => (Below w5.heap.size w5 w) ∧ (d 0 = true → s 22 = .agg #[.bool bT, .slice pT mT cT]) ∧ (d 1 = true → s 23 = .agg #[.bool bT, .slice pT mT cT]) ∧ (d 2 = true → NumR w (s 24) Q) ∧ (d 3 = true → s 25 = .agg #[.bool false, .slice p n c]) ∧ (d 4 = true → s 26 = .int .i64 cr) ∧ (d 5 = true → s 27 = .bool true)) rfl ?h0w6 (?stw6 : StepsF _ _ _ _ 6 _ _ [0, 1, 2, 3, 4, 5]) ?dnw6
        case h0w6 => exact ⟨Below.drew (Below.refl _ _), (fun h => nomatch h), (fun h => nomatch h), (fun h => nomatch h), (fun h => nomatch h), (fun h => nomatch h), (fun h => nomatch h)⟩
        case stw6 =>
          refine StepsF.cons (o := _) rfl (ws := []) (by kernel_rfl) (by decide) (fun d s b w hF hd hw K hK => ?_) ?_
          · have hB : Below w5.heap.size w5 w := (p0_ hF.out)
            dsimp only
            have oA := HA5.out.later hB
            have A0 := oA.at 0 _ rfl
            have A1 := oA.at 1 _ rfl
            clear oA
            have oT := HT.out.later hB
            have T0 := oT.at 0 _ rfl
            have T1 := oT.at 1 _ rfl
            clear oT
            go_simp
            exact hK.out (ups s 22 (.agg #[.bool bT, .slice pT mT cT])) b _ ⟨hB, (fun _ => rfl), (p2_ hF.out), (p3_ hF.out), (p4_ hF.out), (p5_ hF.out), (q6_ hF.out)⟩
          refine StepsF.cons (o := _) rfl (ws := []) (by kernel_rfl) (by decide) (fun d s b w hF hd hw K hK => ?_) ?_
          · have hB : Below w5.heap.size w5 w := (p0_ hF.out)
            dsimp only
            have oA := HA5.out.later hB
            have A0 := oA.at 0 _ rfl
            have A1 := oA.at 1 _ rfl
            clear oA
            have oT := HT.out.later hB
            have T0 := oT.at 0 _ rfl
            have T1 := oT.at 1 _ rfl
            clear oT
            go_simp
            exact hK.out (ups s 23 (.agg #[.bool bT, .slice pT mT cT])) b _ ⟨hB, (p1_ hF.out), (fun _ => rfl), (p3_ hF.out), (p4_ hF.out), (p5_ hF.out), (q6_ hF.out)⟩
          refine StepsF.cons (o := _) rfl (ws := [0, 1]) (by kernel_rfl) (by decide) (fun d s b w hF hd hw K hK => ?_) ?_
          · have hB : Below w5.heap.size w5 w := (p0_ hF.out)
            have e0 : s 22 = .agg #[.bool bT, .slice pT mT cT] := (p1_ hF.out) (hw 0 (by decide))
            have e1 : s 23 = .agg #[.bool bT, .slice pT mT cT] := (p2_ hF.out) (hw 1 (by decide))
            dsimp only
            go_simp
            go_at_call 6
            refine (tm.out _ _ (NT.out.later hB (Nat.le_refl _))).mono ?_
            rintro e w1 ⟨v, rfl, hv, hb⟩
            exact hK.out (ups (ups (ups s 22 (.agg #[.bool bT, .slice pT mT cT])) 23 (.agg #[.bool bT, .slice pT mT cT])) 24 (v)) b _ ⟨(Below.go hB hb), (fun _ => rfl), (fun _ => rfl), (fun _ => hv), (p4_ hF.out), (p5_ hF.out), (q6_ hF.out)⟩
          refine StepsF.cons (o := _) rfl (ws := []) (by kernel_rfl) (by decide) (fun d s b w hF hd hw K hK => ?_) ?_
          · have hB : Below w5.heap.size w5 w := (p0_ hF.out)
            dsimp only
            have oA := HA5.out.later hB
            have A0 := oA.at 0 _ rfl
            have A1 := oA.at 1 _ rfl
            clear oA
            have oT := HT.out.later hB
            have T0 := oT.at 0 _ rfl
            have T1 := oT.at 1 _ rfl
            clear oT
            go_simp
            exact hK.out (ups s 25 (.agg #[.bool false, .slice p n c])) b _ ⟨hB, (p1_ hF.out), (p2_ hF.out), (p3_ hF.out), (fun _ => rfl), (p5_ hF.out), (q6_ hF.out)⟩
          refine StepsF.cons (o := _) rfl (ws := [2, 3, 2]) (by kernel_rfl) (by decide) (fun d s b w hF hd hw K hK => ?_) ?_
          · have hB : Below w5.heap.size w5 w := (p0_ hF.out)
            have e3 : s 25 = .agg #[.bool false, .slice p n c] := (p4_ hF.out) (hw 3 (by decide))
            dsimp only
            go_simp
            go_at_call 27
            refine (ls.out _ _ _ ((p3_ hF.out) (hw 2 (by decide))) (HNA.out _ (Below.go HB5.out hB))).mono ?_
            rintro e w1 ⟨rfl, hb⟩
            exact hK.out (ups (ups s 25 (.agg #[.bool false, .slice p n c])) 26 (.int .i64 cr)) b _ ⟨(Below.go hB hb), (p1_ hF.out), (p2_ hF.out), (fun h0 => ((p3_ hF.out) h0).later hb (Nat.le_refl _)), (fun _ => rfl), (fun _ => rfl), (q6_ hF.out)⟩
          refine StepsF.cons (o := _) rfl (ws := [4]) (by kernel_rfl) (by decide) (fun d s b w hF hd hw K hK => ?_) ?_
          · have hB : Below w5.heap.size w5 w := (p0_ hF.out)
            have e4 : s 26 = .int .i64 cr := (p5_ hF.out) (hw 4 (by decide))
            dsimp only
            go_simp
            exact hK.out (ups (ups s 26 (.int .i64 cr)) 27 (.bool true)) b _ ⟨hB, (p1_ hF.out), (p2_ hF.out), (p3_ hF.out), (p4_ hF.out), (fun _ => rfl), (fun _ => rfl)⟩
          exact StepsF.nil
        intro d s b w6 hF hall
        replace hF := Lib.hid hF
        have hB : Below w5.heap.size w5 w6 := (p0_ hF.out)
        try dsimp only
        have e0 : s 22 = .agg #[.bool bT, .slice pT mT cT] := (p1_ hF.out) (hall 0 (by decide))
        have e1 : s 23 = .agg #[.bool bT, .slice pT mT cT] := (p2_ hF.out) (hall 1 (by decide))
        have f2 := (p3_ hF.out) (hall 2 (by decide))
        have e3 : s 25 = .agg #[.bool false, .slice p n c] := (p4_ hF.out) (hall 3 (by decide))
        have e4 : s 26 = .int .i64 cr := (p5_ hF.out) (hall 4 (by decide))
        have e5 : s 27 = .bool true := (q6_ hF.out) (hall 5 (by decide))
        rw [e0, e1, e3, e4, e5]
        clear hall hF e0 e1 e3 e4 e5
        obtain ⟨q24, hz⟩ : ∃ x, x = s 24 := ⟨_, rfl⟩
        rw [← hz] at f2 ⊢
        clear hz
        clear d s b
        have HA6 := Lib.hid (HA5.out.later hB); have HR6 := Lib.hid (HR5.out.later hB); have HC6 := Lib.hid (HC5.out.later hB); have HT6 := Lib.hid (HT.out.later hB)
        have NC6 := Lib.hid (NC.out.later hB (Nat.le_refl _)); have NT6 := Lib.hid (NT.out.later hB (Nat.le_refl _))
        have HB6 := Lib.hid (Below.go HB5.out hB)
        clear HA5 HR5 HC5 HT NC NT HB5 hB f2 tm ls
        have oT := HT6.out
        have T0 := oT.at 0 _ rfl
        have T1 := oT.at 1 _ rfl
        have Tl := oT.lt
        clear oT
        have oC := HC6.out
        have C0 := oC.at 0 _ rfl
        have Cf0 := oC.ok 0 (by simp)
        have C1 := oC.at 1 _ rfl
        have Cf1 := oC.ok 1 (by simp)
        have Cl := oC.lt
        clear oC
        have nA := Lib.hid (HA6.out.far (o := 0) (vs := [.bool bT, .slice pT mT cT]) nAC); have nR := Lib.hid (HR6.out.far (o := 0) (vs := [.bool bT, .slice pT mT cT]) nRC)
        have nC := Lib.hid (Own.store (vs := [.bool bT, .slice pT mT cT]) HC6.out rfl)
        have nN := Lib.hid (NT6.out.boxed C0 (.bool bT) (.slice pT mT cT))
        have nB := Lib.hid (Below.setCells HB6.out Cw [.bool bT, .slice pT mT cT] 0)
        clear HA6 HR6 HC6 HT6 NC6 NT6 HB6
        go_wp2_with (fail)
        go_roundw
        case rel => exact ⟨j, Y, (j : Int) - 1, bT, pT, mT, cT, by omega, rfl, rfl, Lib.hid (yes.out hq), nA, nR, nC, nN, nB⟩
        case measure => simp [intOf] <;> omega
      
      · obtain ⟨cr, hcr, hle⟩ : ∃ cr, cmpI Q a = cr ∧ ¬ cr ≤ 0 := ⟨_, rfl, by rw [cmpI_gt (by omega)]; omega⟩
        have ls2 := ls.out
        rw [hcr] at ls2
        replace ls := Lib.hid ls2
        clear ls2 hcr
        go_upto_region 8 with (fail)
        refine wp_region_fun 6 (by kernel_rfl) (by kernel_rfl) rfl (fun s b => ⟨#[.agg #[.bool false, .slice p n c], .pointer (some ⟨A, 0, none⟩), .pointer (some ⟨R, 0, none⟩), .pointer (some ⟨C, 0, none⟩), .int .i64 (j : Int), .pointer (some ⟨T, 0, none⟩), .agg #[.bool false, .slice none 0 0], .pointer (some ⟨A, 0, none⟩), .bool false, undef, .pointer (some ⟨A, 1, none⟩), .slice p n c, .int .i64 (n : Int), .int .i64 (K : Int), .int .i64 (j : Int), .bool true, u16, u17, .agg #[.bool b3, .slice p3 m3 c3], .int .i64 (j : Int), q20, q21, s 22, s 23, s 24, s 25, s 26, s 27, u28, undef], []⟩) (fun d s b w => (Below w5.heap.size w5 w) ∧ (d 0 = true → s 22 = .agg #[.bool bT, .slice pT mT cT]) ∧ (d 1 = true → s 23 = .agg #[.bool bT, .slice pT mT cT]) ∧ (d 2 = true → NumR w (s 24) Q) ∧ (d 3 = true → s 25 = .agg #[.bool false, .slice p n c]) ∧ (d 4 = true → s 26 = .int .i64 cr) ∧ (d 5 = true → s 27 = .bool false)) rfl ?h0w7 (?stw7 : StepsF _ _ _ _ 6 _ _ [0, 1, 2, 3, 4, 5]) ?dnw7
        case h0w7 => exact ⟨Below.drew (Below.refl _ _), (fun h => nomatch h), (fun h => nomatch h), (fun h => nomatch h), (fun h => nomatch h), (fun h => nomatch h), (fun h => nomatch h)⟩
        case stw7 =>
          refine StepsF.cons (o := _) rfl (ws := []) (by kernel_rfl) (by decide) (fun d s b w hF hd hw K hK => ?_) ?_
          · have hB : Below w5.heap.size w5 w := (p0_ hF.out)
            dsimp only
            have oA := HA5.out.later hB
            have A0 := oA.at 0 _ rfl
            have A1 := oA.at 1 _ rfl
            clear oA
            have oT := HT.out.later hB
            have T0 := oT.at 0 _ rfl
            have T1 := oT.at 1 _ rfl
            clear oT
            go_simp
            exact hK.out (ups s 22 (.agg #[.bool bT, .slice pT mT cT])) b _ ⟨hB, (fun _ => rfl), (p2_ hF.out), (p3_ hF.out), (p4_ hF.out), (p5_ hF.out), (q6_ hF.out)⟩
          refine StepsF.cons (o := _) rfl (ws := []) (by kernel_rfl) (by decide) (fun d s b w hF hd hw K hK => ?_) ?_
          · have hB : Below w5.heap.size w5 w := (p0_ hF.out)
            dsimp only
            have oA := HA5.out.later hB
            have A0 := oA.at 0 _ rfl
            have A1 := oA.at 1 _ rfl
            clear oA
            have oT := HT.out.later hB
            have T0 := oT.at 0 _ rfl
            have T1 := oT.at 1 _ rfl
            clear oT
            go_simp
            exact hK.out (ups s 23 (.agg #[.bool bT, .slice pT mT cT])) b _ ⟨hB, (p1_ hF.out), (fun _ => rfl), (p3_ hF.out), (p4_ hF.out), (p5_ hF.out), (q6_ hF.out)⟩
          refine StepsF.cons (o := _) rfl (ws := [0, 1]) (by kernel_rfl) (by decide) (fun d s b w hF hd hw K hK => ?_) ?_
          · have hB : Below w5.heap.size w5 w := (p0_ hF.out)
            have e0 : s 22 = .agg #[.bool bT, .slice pT mT cT] := (p1_ hF.out) (hw 0 (by decide))
            have e1 : s 23 = .agg #[.bool bT, .slice pT mT cT] := (p2_ hF.out) (hw 1 (by decide))
            dsimp only
            go_simp
            go_at_call 6
            refine (tm.out _ _ (NT.out.later hB (Nat.le_refl _))).mono ?_
            rintro e w1 ⟨v, rfl, hv, hb⟩
            exact hK.out (ups (ups (ups s 22 (.agg #[.bool bT, .slice pT mT cT])) 23 (.agg #[.bool bT, .slice pT mT cT])) 24 (v)) b _ ⟨(Below.go hB hb), (fun _ => rfl), (fun _ => rfl), (fun _ => hv), (p4_ hF.out), (p5_ hF.out), (q6_ hF.out)⟩
          refine StepsF.cons (o := _) rfl (ws := []) (by kernel_rfl) (by decide) (fun d s b w hF hd hw K hK => ?_) ?_
          · have hB : Below w5.heap.size w5 w := (p0_ hF.out)
            dsimp only
            have oA := HA5.out.later hB
            have A0 := oA.at 0 _ rfl
            have A1 := oA.at 1 _ rfl
            clear oA
            have oT := HT.out.later hB
            have T0 := oT.at 0 _ rfl
            have T1 := oT.at 1 _ rfl
            clear oT
            go_simp
            exact hK.out (ups s 25 (.agg #[.bool false, .slice p n c])) b _ ⟨hB, (p1_ hF.out), (p2_ hF.out), (p3_ hF.out), (fun _ => rfl), (p5_ hF.out), (q6_ hF.out)⟩
          refine StepsF.cons (o := _) rfl (ws := [2, 3, 2]) (by kernel_rfl) (by decide) (fun d s b w hF hd hw K hK => ?_) ?_
          · have hB : Below w5.heap.size w5 w := (p0_ hF.out)
            have e3 : s 25 = .agg #[.bool false, .slice p n c] := (p4_ hF.out) (hw 3 (by decide))
            dsimp only
            go_simp
            go_at_call 27
            refine (ls.out _ _ _ ((p3_ hF.out) (hw 2 (by decide))) (HNA.out _ (Below.go HB5.out hB))).mono ?_
            rintro e w1 ⟨rfl, hb⟩
            exact hK.out (ups (ups s 25 (.agg #[.bool false, .slice p n c])) 26 (.int .i64 cr)) b _ ⟨(Below.go hB hb), (p1_ hF.out), (p2_ hF.out), (fun h0 => ((p3_ hF.out) h0).later hb (Nat.le_refl _)), (fun _ => rfl), (fun _ => rfl), (q6_ hF.out)⟩
          refine StepsF.cons (o := _) rfl (ws := [4]) (by kernel_rfl) (by decide) (fun d s b w hF hd hw K hK => ?_) ?_
          · have hB : Below w5.heap.size w5 w := (p0_ hF.out)
            have e4 : s 26 = .int .i64 cr := (p5_ hF.out) (hw 4 (by decide))
            dsimp only
            go_simp
            exact hK.out (ups (ups s 26 (.int .i64 cr)) 27 (.bool false)) b _ ⟨hB, (p1_ hF.out), (p2_ hF.out), (p3_ hF.out), (p4_ hF.out), (fun _ => rfl), (fun _ => rfl)⟩
          exact StepsF.nil
        intro d s b w7 hF hall
        replace hF := Lib.hid hF
        have hB : Below w5.heap.size w5 w7 := (p0_ hF.out)
        try dsimp only
        have e0 : s 22 = .agg #[.bool bT, .slice pT mT cT] := (p1_ hF.out) (hall 0 (by decide))
        have e1 : s 23 = .agg #[.bool bT, .slice pT mT cT] := (p2_ hF.out) (hall 1 (by decide))
        have f2 := (p3_ hF.out) (hall 2 (by decide))
        have e3 : s 25 = .agg #[.bool false, .slice p n c] := (p4_ hF.out) (hall 3 (by decide))
        have e4 : s 26 = .int .i64 cr := (p5_ hF.out) (hall 4 (by decide))
        have e5 : s 27 = .bool false := (q6_ hF.out) (hall 5 (by decide))
        rw [e0, e1, e3, e4, e5]
        clear hall hF e0 e1 e3 e4 e5
        obtain ⟨q24, hz⟩ : ∃ x, x = s 24 := ⟨_, rfl⟩
        rw [← hz] at f2 ⊢
        clear hz
        clear d s b
        have HA6 := Lib.hid (HA5.out.later hB); have HR6 := Lib.hid (HR5.out.later hB); have HC6 := Lib.hid (HC5.out.later hB); have HT6 := Lib.hid (HT.out.later hB)
        have NC6 := Lib.hid (NC.out.later hB (Nat.le_refl _)); have NT6 := Lib.hid (NT.out.later hB (Nat.le_refl _))
        have HB6 := Lib.hid (Below.go HB5.out hB)
        clear HA5 HR5 HC5 HT NC NT HB5 hB f2 tm ls
        clear HT6 NT6
        go_wp2_with (fail)
        go_roundw
        case rel => exact ⟨j, r, (j : Int) - 1, b3, p3, m3, c3, by omega, rfl, rfl, Lib.hid (no.out (by omega)), HA6, HR6, HC6, NC6, HB6⟩
        case measure => simp [intOf] <;> omega

def IsRoot (z s : Int) : Prop := (z < 0 → s = 0) ∧ (0 ≤ z → 0 ≤ s ∧ s * s ≤ z ∧ z < (s + 1) * (s + 1))
theorem root_lt (z r s : Int) (r0 : 0 ≤ r) (hr : z < (r + 1) * (r + 1)) (hs : s * s ≤ z) (h : r < s) : False := by
  have := Int.mul_le_mul (show r + 1 ≤ s by omega) (show r + 1 ≤ s by omega) (by omega) (by omega)
  omega
theorem IsRoot.uniq {z r s : Int} (h1 : IsRoot z r) (h2 : IsRoot z s) : r = s := by
  by_cases h : z < 0
  · rw [h1.1 h, h2.1 h]
  · obtain ⟨a1, a2, a3⟩ := h1.2 (by omega)
    obtain ⟨b1, b2, b3⟩ := h2.2 (by omega)
    by_cases c : r < s
    · exact (root_lt z r s a1 a3 b2 c).elim
    · by_cases d : s < r
      · exact (root_lt z s r b1 b3 a2 d).elim
      · omega
theorem ex_rootN (z : Nat) : ∃ s : Nat, s * s ≤ z ∧ z < (s + 1) * (s + 1) := by
  induction z with
  | zero => exact ⟨0, by omega, by omega⟩
  | succ z ih =>
    obtain ⟨s, a, b⟩ := ih
    by_cases h : (s + 1) * (s + 1) ≤ z + 1
    · refine ⟨s + 1, h, ?_⟩
      have e : (s + 1 + 1) * (s + 1 + 1) = (s + 1) * (s + 1) + 2 * s + 3 := by grind
      omega
    · exact ⟨s, by omega, by omega⟩
theorem Root_num (v : Value) (z s : Int) (w : World) (hv : NumR w v z) (h : z < 170141183460469231731687303715884105728) (hs : IsRoot z s) : Calls Try.prog 12 #[v] w (NumE w s) := by
  have nn := hv
  obtain ⟨b, sl, ds, rfl, h2, h3, h4, _, hz⟩ := hv
  obtain ⟨p, n, c, rfl⟩ := h2.form
  have ni := nn.neg_iff
  cases b with
  | true =>
    have : s = 0 := hs.1 (ni.1 rfl)
    subst this
    exact Root_below p n c w
  | false =>
    have hz' : z = val ds := by simpa using hz
    subst hz'
    have v0 := val_nonneg ds fun i => (h3 i).1
    have l8 := len8 ds h3 h4 (by omega)
    refine (Root_core p n c ds 0 w h2 (by rw [← h2.len.1]; exact l8) h3 h nn).mono ?_
    rintro e w' ⟨r, hr, hE⟩
    have e1 : r = s := IsRoot.uniq ⟨fun h => by omega, fun _ => ⟨hr.r0, hr.le, by have := hr.lt; simpa using this⟩⟩ hs
    rw [← e1]
    exact hE

set_option maxHeartbeats 4000000 in
theorem Roots_core (ah al z s th : Int) (w : World)
    (wi : Hid (∀ w, Calls Try.prog 13 #[(.agg #[.int .i64 ah, .int .u64 al])] w (NumE w z)))
    (ro : Hid (∀ v w, NumR w v z → Calls Try.prog 12 #[v] w (NumE w s)))
    (tw : Hid (∀ v w, NumR w v s → Calls Try.prog 5 #[v] w fun e w' => e = .returned (.tuple #[(.agg #[.int .i64 th, .int .u64 s]), .bool true]) ∧ Below w.heap.size w w'))
    (sq : Hid (∀ w, Calls Try.prog 14 #[(.agg #[.int .i64 ah, .int .u64 al])] w fun e w' => e = .returned (.int .u64 s) ∧ Below w.heap.size w w'))
    (wk : Hid (∀ w, Calls Try.prog 11 #[] w fun e w' => e = .returned (.bool true) ∧ Below w.heap.size w w')) :
    Calls Try.prog 4 #[(.agg #[.int .i64 ah, .int .u64 al])] w fun e w' => e = .returned (.bool true) ∧ Below w.heap.size w w' := by
  go_enter Try.func4, Try.ntmps4
  go_wp2_with (fail)
  obtain ⟨W0, hW⟩ : ∃ W0, W0 = (w.alloc (.cells #[.int .i64 ah, .int .u64 al] 24)) := ⟨_, rfl⟩
  have hB0 : Below w.heap.size w W0 := hW ▸ (Below.al (Below.refl _ _))
  have HA : Hid (Own w.heap.size [.int .i64 ah, .int .u64 al] W0) := Lib.hid (hW ▸ (Own.newAt (by simp)))
  rw [← hW]
  clear hW
  obtain ⟨A, eA⟩ : ∃ X, X = w.heap.size := ⟨_, rfl⟩
  rw [← eA] at HA ⊢
  have Aw : w.heap.size ≤ A := by omega
  clear eA
  go_at_call 13; refine (wi.out _).mono ?_; rintro e w1 ⟨u1, rfl, h1, hb⟩
  replace HA := Lib.hid (HA.out.later hb)
  have hB1 := Below.go hB0 hb
  clear hb hB0
  go_wp2_with (fail)
  go_at_call 12; refine (ro.out _ _ h1).mono ?_; rintro e w2 ⟨u2, rfl, h2, hb⟩
  replace HA := Lib.hid (HA.out.later hb)
  have hB2 := Below.go hB1 hb
  clear hb hB1 h1
  go_wp2_with (fail)
  go_at_call 5; refine (tw.out _ _ h2).mono ?_; rintro e w3 ⟨rfl, hb⟩
  replace HA := Lib.hid (HA.out.later hb)
  have hB3 := Below.go hB2 hb
  clear hb hB2 h2
  go_upto_region 2 with fail
  obtain ⟨U3, hW⟩ : ∃ U3, U3 = (w3.alloc (.cells #[.int .i64 th, .int .u64 s] 24)) := ⟨_, rfl⟩
  have hq : Below w3.heap.size w3 U3 := hW ▸ (Below.al (Below.refl _ _))
  have HP : Hid (Own w3.heap.size [.int .i64 th, .int .u64 s] U3) := Lib.hid (hW ▸ (Own.newAt (by simp)))
  rw [← hW]
  clear hW
  obtain ⟨P, eP⟩ : ∃ X, X = w3.heap.size := ⟨_, rfl⟩
  rw [← eP] at HP ⊢
  have Pw : w3.heap.size ≤ P := by omega
  clear eP
  replace HA := Lib.hid (HA.out.later hq)
  have hC3 := Below.go hB3 hq
  clear hq hB3 Pw
  have hBd : Below U3.heap.size U3 U3.drew := (Below.refl _ _).drew
  have SH : Hid (∀ w', Below U3.heap.size U3 w' → w'.cell? ⟨A, 0, none⟩ = some (.int .i64 ah) ∧ w'.cell? ⟨A, 1, none⟩ = some (.int .u64 al) ∧ w'.cell? ⟨P, 0, none⟩ = some (.int .i64 th) ∧ w'.cell? ⟨P, 1, none⟩ = some (.int .u64 s)) := Lib.hid fun w' hb => ⟨(HA.out.later hb).at 0 _ rfl, (HA.out.later hb).at 1 _ rfl, (HP.out.later hb).at 0 _ rfl, (HP.out.later hb).at 1 _ rfl⟩
  go_region_held3 (fun w' => w'.cell? ⟨A, 0, none⟩ = some (.int .i64 ah) ∧ w'.cell? ⟨A, 1, none⟩ = some (.int .u64 al) ∧ w'.cell? ⟨P, 0, none⟩ = some (.int .i64 th) ∧ w'.cell? ⟨P, 1, none⟩ = some (.int .u64 s)) (first | exact SH.out _ (by assumption) | exact SH.out _ (Below.al (by assumption))) (first | (go_at_call 14; (with_reducible refine (sq.out _).mono ?_); rintro e w5 ⟨rfl, h1⟩; have bw5 : Below U3.heap.size U3 w5 := Below.go hBd h1; clear h1) | (go_at_call 11; (with_reducible refine (wk.out _).mono ?_); rintro e w6 ⟨rfl, h1⟩; have bw6 : Below U3.heap.size U3 w6 := Below.go bw5 h1; clear h1))
  have hB8 := Below.go hC3 bw6
  clear hC3 hBd bw5 bw6 SH HA HP wi ro tw sq wk
  go_wp2
  go_ret
  exact ⟨rfl, hB8⟩
theorem Roots_walk (ah al : Int) (bh : -9223372036854775808 ≤ ah ∧ ah ≤ 9223372036854775807) (bl : 0 ≤ al ∧ al ≤ 18446744073709551615) (w : World) : Calls Try.prog 4 #[(.agg #[.int .i64 ah, .int .u64 al])] w fun e w' => e = .returned (.bool true) ∧ Below w.heap.size w w' := by
  obtain ⟨z, hz⟩ : ∃ z, z = ah * 18446744073709551616 + al := ⟨_, rfl⟩
  have eh : hi z = ah := by unfold hi; omega
  have el : lo z = al := by unfold lo; omega
  have z0 : -170141183460469231731687303715884105728 ≤ z := by omega
  have z1 : z < 170141183460469231731687303715884105728 := by omega
  have wi := fun w => wide_any z z0 z1 w
  rw [eh, el] at wi
  obtain ⟨s, hs, h64, sq⟩ : ∃ s : Nat, IsRoot z s ∧ s < 18446744073709551616 ∧ ∀ w, Calls Try.prog 14 #[(.agg #[.int .i64 (hi z), .int .u64 (lo z)])] w fun e w' => e = .returned (.int .u64 (s : Int)) ∧ Below w.heap.size w w' := by
    by_cases h : z < 0
    · exact ⟨0, ⟨fun _ => rfl, fun h1 => by omega⟩, by omega, fun w => Sqrt_none z h w⟩
    · obtain ⟨s, a, b⟩ := ex_rootN z.toNat
      have a' : (s : Int) * s ≤ z := by have : ((s * s : Nat) : Int) ≤ z := by omega
                                        rwa [Int.natCast_mul] at this
      have b' : z < ((s : Int) + 1) * (s + 1) := by
        have : z < (((s + 1) * (s + 1) : Nat) : Int) := by omega
        rwa [Int.natCast_mul, Int.natCast_add] at this
      refine ⟨s, ⟨fun h1 => by omega, fun _ => ⟨by omega, a', b'⟩⟩, ?_, fun w => Sqrt_any z s (by omega) z1 a' b' w⟩
      refine Nat.not_le.1 fun h1 => ?_
      have := Nat.mul_le_mul h1 h1
      omega
  rw [eh, el] at sq
  have hh : hi (s : Int) = 0 := by unfold hi; omega
  have hl : lo (s : Int) = s := by unfold lo; omega
  have iw : inW (s : Int) = true := by unfold inW; simp; omega
  exact Roots_core ah al z s 0 w (Lib.hid wi) (Lib.hid fun v w hv => Root_num v z s w hv z1 hs) (Lib.hid fun v w hv => by
    have h := ToWide_v v s w hv (by unfold SMALL; omega)
    rw [iw, hh, hl] at h
    exact h) (Lib.hid sq) (Lib.hid works_any)
end Go.Proofs.Ytlfchlholabijaa
