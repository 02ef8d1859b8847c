/- poly.kept.keep. -/
import Derived.Test.YtbofihejegbfhaaNU
import Derived.Lib.Hide
namespace Go.Proofs.Ytbofihejegbfhaa
set_option linter.unusedVariables false
set_option maxRecDepth 2000
set_option linter.unusedSimpArgs false
open Go.RowKit
theorem DatK.slice {w : World} {v : Value} {n base K : Nat} {g : Nat → Int} {p0 : Option Addr} (h : DatK w v n g base K p0) : ∃ p c, v = .slice p n c := by
  rcases h with ⟨p, h1, _, _⟩ | h
  · exact ⟨p, n, h1⟩
  · obtain ⟨p, c, h1, _⟩ := row_form h
    exact ⟨p, c, h1⟩
theorem over_set (cs : List Value) (o : Nat) (a : Value) (h : o < cs.length) : over cs o [a] = cs.set o a := by
  rw [List.set_eq_take_append_cons_drop, if_pos h]; simp [over]
theorem over_over (cs : List Value) (o : Nat) (a b : Value) (h : o < cs.length) : over (over cs o [a]) o [b] = over cs o [b] := by
  rw [over_set cs o a h, over_set cs o b h, over_set _ o b (by simpa using h), List.set_set]
theorem over_at (cs : List Value) (o : Nat) (a : Value) (h : o < cs.length) : (over cs o [a])[o]? = some a := by
  unfold over
  simp [List.getElem?_append, Nat.min_eq_left (Nat.le_of_lt h)]
theorem over_len (cs : List Value) (o : Nat) (a : Value) (h : o < cs.length) : (over cs o [a]).length = cs.length := over_length cs o [a] (by simp; omega)
theorem Own.over1 {K : Nat} {cs : List Value} {W : World} {o : Nat} {a b : Value} (h : Own K (over cs o [a]) W) (ho : o < cs.length) : Own K (over cs o [b]) (W.setCells K o [b]) := by
  have := Own.part (o := o) (vs := [b]) h (by rw [over_len cs o a ho]; simp; omega)
  rwa [over_over cs o a b ho] at this
theorem But.grown {K : Nat} {E a w' : World} {row : Option Nat} (h : But K E a) (hg : a.grownBy w' row) (hr : ∀ k, row = some k → E.heap.size ≤ k) (hK : K < E.heap.size) : But K E w' :=
  ⟨h.below.grown hg (Nat.le_trans (Nat.le_of_lt hK) h.below.size) (fun k hk => Nat.le_trans (Nat.le_of_lt hK) (hr k hk)), fun b hb hn => by
    rw [hg.block b (Nat.lt_of_lt_of_le hb h.below.size) (fun e => by have := hr b e.symm; omega)]
    exact h.heap b hb hn⟩
attribute [local go_sem ↓ high] sliced_head

set_option maxHeartbeats 4000000 in
theorem keep_any (K off : Nat) (cs : List Value) (p0 : Option Addr) (n c0 : Nat) (g : Nat → Int) (P_ : Option Addr) (np cp : Nat) (T : Nat → Nat) (hoff : cs[off]? = some (.slice p0 n c0)) (hnc : n ≤ c0) (hp0 : p0 = none → n = 0) (hT0 : T 0 = n) (hT : ∀ k, k ≤ np → T k ≤ 65536) (hnp : np ≤ cp) (hcp : cp ≤ 9223372036854775807) (w : World) (hK : Own K cs w) (hb : BytN w p0 n g K) (hP : PartsN w P_ np g T K) :
    Calls Try.prog 16 #[.pointer (some ⟨K, off, none⟩), .slice P_ np cp] w fun e w' => ∃ v', e = .returned (.tuple #[]) ∧ DatK w' v' (T np) g w.heap.size K p0 ∧ Own K (over cs off [v']) w' ∧ But K w w' := by
  have hof : off < cs.length := (List.getElem?_eq_some_iff.1 hoff).1
  have x0 := hK.at off _ hoff
  have HT := Lib.hid hT; have HT0 := Lib.hid hT0; have HP0 := Lib.hid hp0; have HNP := Lib.hid hnp; have HCP := Lib.hid hcp
  have OF := Lib.hid hof
  have HK := Lib.hid hK; have HB := Lib.hid hb; have HP := Lib.hid hP
  have CL := Lib.hid (fun w => Clip_any p0 n c0 hnc w)
  clear hoff hnc hp0 hT0 hT hnp hcp hK hb hP hof
  go_enter Try.func16, Try.ntmps16
  go_wp2_with (fail)
  go_at_call 24
  refine (CL.out _).mono ?_
  rintro e w1 ⟨rfl, hb⟩
  have Kl := HK.out.lt
  have k1 := HK.out.later hb
  have xf := k1.ok off OF.out
  have Kl1 := k1.lt
  obtain ⟨v0, ev0⟩ : ∃ v, Value.slice p0 n n = v := ⟨_, rfl⟩
  have x1 : ∃ u, w1.cell? ⟨K, off, none⟩ = some u := ⟨_, k1.at off _ (List.getElem?_eq_getElem OF.out)⟩
  obtain ⟨u0, x1⟩ := x1
  have bu := But.of hb Kl
  have HKn := Lib.hid (show Own K (over cs off [Value.slice p0 n n]) (w1.setCells K off [Value.slice p0 n n]) from Own.part k1 (by simp; exact OF.out))
  have BU := Lib.hid (bu.trans (But.store (K := K) (o := off) (a := w1) (vs := [Value.slice p0 n n])))
  have DK : Hid (DatK (w1.setCells K off [Value.slice p0 n n]) (Value.slice p0 n n) (T 0) g w.heap.size K p0) := Lib.hid (by
    rw [HT0.out]
    exact .inl ⟨p0, rfl, HP0.out, HB.out.but BU.out, rfl⟩)
  clear HK HB k1 bu hb ev0
  go_wp2_with (fail)
  go_loopw [17] (fun iv wr => ∃ (k : Nat) (v : Value), k ≤ np ∧ iv = .int .i64 k ∧ Hid (DatK wr v (T k) g w.heap.size K p0) ∧ Hid (Own K (over cs off [v]) wr) ∧ Hid (But K w wr) ) (fun iv _ => (np - (intOf iv).toNat))
  case atStart => exact ⟨0, _, Nat.zero_le _, rfl, DK, HKn, BU⟩
  case round =>
    clear DK HKn BU x1 xf x0 Kl1
    obtain ⟨k, v, hk, rfl, DK, HK, BU⟩ := hrel
    by_cases hlt : k < np
    · obtain ⟨D, o, q, m, c, rfl, hDK, hD, hcell, hmc, hcx, hTk, hby⟩ := (HP.out.but BU.out) k hlt
      have BYq := Lib.hid hby
      have NDK := Lib.hid hDK
      have hki : (k : Int) < (np : Int) := by omega
      have k0 : (0 : Int) ≤ (k : Int) := by omega
      have k63 : IntKind.i64.wrap ((k : Int) + 1) = (k : Int) + 1 := IntWalk.i64_in _ (by have := HNP.out; have := HCP.out; omega)
      have hT1 := HT.out k (by omega)
      have hT2 := HT.out (k + 1) (by omega)
      have HTk := Lib.hid hTk
      obtain ⟨t, et⟩ : ∃ t, T k = t := ⟨_, rfl⟩
      rw [et] at hTk hT1 DK HTk BYq
      have TM := Lib.hid (show t + m ≤ 65536 by omega)
      obtain ⟨r, er⟩ : ∃ r : Nat, r = 65536 - t := ⟨_, rfl⟩
      have e1 : (65536 : Int) - (t : Int) = (r : Int) := by omega
      have e2 : IntKind.i64.wrap (r : Int) = (r : Int) := IntWalk.i64_in _ (by omega)
      have e3 : (if (r : Int) < (m : Int) then (r : Int) else (m : Int)) = (m : Int) := by rw [if_neg (by omega)]
      have e3n : (if r < m then (r : Int) else (m : Int)) = (m : Int) := by rw [if_neg (by omega)]
      have m0 : (0 : Int) ≤ (m : Int) := by omega
      have m1 : (m : Int) ≤ (c : Int) := by omega
      obtain ⟨p1, c1, ev⟩ := DK.out.slice
      subst ev
      have vc := HK.out.at off _ (over_at cs off _ OF.out)
      have vf := HK.out.ok off (by rw [over_len cs off _ OF.out]; exact OF.out)
      have Kl2 := HK.out.lt
      have DW : D < wr.heap.size := hD
      have HLT := Lib.hid hlt
      clear hk hlt hby hTk hT1 hT2 et er hmc hcx hDK hD
      obtain ⟨E, eE⟩ : ∃ E, E = w := ⟨_, rfl⟩
      subst eE
      go_wp2_with (fail)
      refine wp_region_fun 15 (by kernel_rfl) (by kernel_rfl) rfl (fun s b => ⟨#[.pointer (some ⟨K, off, none⟩), .slice (some ⟨D, o, none⟩) np cp, undef, undef, undef, .slice q m c, .int .i64 r, .pointer (some ⟨K, off, none⟩), .pointer (some ⟨K, off, none⟩), .pointer (some ⟨K, off, none⟩), .pointer (some ⟨K, off, none⟩), .slice p0 n c0, .slice p0 n n, .pointer (some ⟨K, off, none⟩), .pointer (some ⟨K, off, none⟩), .slice (some ⟨D, o, none⟩) np cp, .int .i64 np, .int .i64 k, .bool true, .pointer (some ⟨D, (o + k), none⟩), .slice q m c, .pointer (some ⟨K, off, none⟩), .pointer (some ⟨K, off, none⟩), .pointer (some ⟨K, off, none⟩), .slice p1 t c1, .int .i64 t, .int .i64 r, s 27, s 28, s 29, s 30, s 31, s 32, s 33, s 34, s 35, s 36, s 37, s 38, s 39, s 40, u41], []⟩) (fun d s b w => (True) ∧ (d 0 = true → s 27 = .pointer (some ⟨K, off, none⟩)) ∧ (d 1 = true → s 28 = .pointer (some ⟨K, off, none⟩)) ∧ (d 2 = true → s 29 = .pointer (some ⟨K, off, none⟩)) ∧ (d 3 = true → s 30 = .pointer (some ⟨K, off, none⟩)) ∧ (d 4 = true → s 31 = .slice p1 t c1) ∧ (d 5 = true → s 32 = .slice q m c) ∧ (d 6 = true → s 33 = .slice q m c) ∧ (d 7 = true → s 34 = .int .i64 m) ∧ (d 8 = true → s 35 = .int .i64 r) ∧ (d 9 = true → s 36 = .int .i64 m) ∧ (d 10 = true → s 37 = .slice q m c) ∧ (d 11 = false → w = wr.drew) ∧ (d 11 = true → d 14 = false → DatK w (s 38) (t + m) g E.heap.size K p0 ∧ Own K (over cs off [.slice p1 t c1]) w ∧ But K E w) ∧ (d 12 = true → s 39 = .pointer (some ⟨K, off, none⟩)) ∧ (d 13 = true → s 40 = .pointer (some ⟨K, off, none⟩)) ∧ (d 14 = true → ∃ w2, (DatK w2 (s 38) (t + m) g E.heap.size K p0 ∧ Own K (over cs off [.slice p1 t c1]) w2 ∧ But K E w2) ∧ w = w2.setCells K off [s 38]) ∧ (d 11 = true → d 4 = true) ∧ (d 14 = true → d 11 = true)) rfl ?h0z1 (?stz1 : StepsF _ _ _ _ 15 _ _ [0, 1, 2, 3, 4, 5, 6, 7, 8, 9, 10, 11, 12, 13, 14]) ?dnz1
      case h0z1 => exact ⟨trivial, (fun h => nomatch h), (fun h => nomatch h), (fun h => nomatch h), (fun h => nomatch h), (fun h => nomatch h), (fun h => nomatch h), (fun h => nomatch h), (fun h => nomatch h), (fun h => nomatch h), (fun h => nomatch h), (fun h => nomatch h), (fun _ => rfl), (fun h => nomatch h), (fun h => nomatch h), (fun h => nomatch h), (fun h => nomatch h), (fun h => nomatch h), (fun h => nomatch h)⟩
      case stz1 =>
        refine StepsF.cons (o := _) rfl (ws := []) (by kernel_rfl) (by decide) (fun d s b w hF hd hw K_ hK => ?_) ?_
        · have hB : True := trivial
          dsimp only
          go_simp
          exact hK.out (ups s 27 (.pointer (some ⟨K, off, none⟩))) b _ ⟨hB, (fun _ => rfl), (p2_ hF.out), (p3_ hF.out), (p4_ hF.out), (p5_ hF.out), (p6_ hF.out), (p7_ hF.out), (p8_ hF.out), (p9_ hF.out), (p10_ hF.out), (p11_ hF.out), (p12_ hF.out), (p13_ hF.out), (p14_ hF.out), (p15_ hF.out), (p16_ hF.out), (p17_ hF.out), (q18_ hF.out)⟩
        refine StepsF.cons (o := _) rfl (ws := []) (by kernel_rfl) (by decide) (fun d s b w hF hd hw K_ hK => ?_) ?_
        · have hB : True := trivial
          dsimp only
          go_simp
          exact hK.out (ups s 28 (.pointer (some ⟨K, off, none⟩))) b _ ⟨hB, (p1_ hF.out), (fun _ => rfl), (p3_ hF.out), (p4_ hF.out), (p5_ hF.out), (p6_ hF.out), (p7_ hF.out), (p8_ hF.out), (p9_ hF.out), (p10_ hF.out), (p11_ hF.out), (p12_ hF.out), (p13_ hF.out), (p14_ hF.out), (p15_ hF.out), (p16_ hF.out), (p17_ hF.out), (q18_ hF.out)⟩
        refine StepsF.cons (o := _) rfl (ws := [1]) (by kernel_rfl) (by decide) (fun d s b w hF hd hw K_ hK => ?_) ?_
        · have hB : True := trivial
          have e1 : s 28 = .pointer (some ⟨K, off, none⟩) := (p2_ hF.out) (hw 1 (by decide))
          dsimp only
          go_simp
          exact hK.out (ups (ups s 28 (.pointer (some ⟨K, off, none⟩))) 29 (.pointer (some ⟨K, off, none⟩))) b _ ⟨hB, (p1_ hF.out), (fun _ => rfl), (fun _ => rfl), (p4_ hF.out), (p5_ hF.out), (p6_ hF.out), (p7_ hF.out), (p8_ hF.out), (p9_ hF.out), (p10_ hF.out), (p11_ hF.out), (p12_ hF.out), (p13_ hF.out), (p14_ hF.out), (p15_ hF.out), (p16_ hF.out), (p17_ hF.out), (q18_ hF.out)⟩
        refine StepsF.cons (o := _) rfl (ws := [2]) (by kernel_rfl) (by decide) (fun d s b w hF hd hw K_ hK => ?_) ?_
        · have hB : True := trivial
          have e2 : s 29 = .pointer (some ⟨K, off, none⟩) := (p3_ hF.out) (hw 2 (by decide))
          dsimp only
          go_simp
          exact hK.out (ups (ups s 29 (.pointer (some ⟨K, off, none⟩))) 30 (.pointer (some ⟨K, off, none⟩))) b _ ⟨hB, (p1_ hF.out), (p2_ hF.out), (fun _ => rfl), (fun _ => rfl), (p5_ hF.out), (p6_ hF.out), (p7_ hF.out), (p8_ hF.out), (p9_ hF.out), (p10_ hF.out), (p11_ hF.out), (p12_ hF.out), (p13_ hF.out), (p14_ hF.out), (p15_ hF.out), (p16_ hF.out), (p17_ hF.out), (q18_ hF.out)⟩
        refine StepsF.cons (o := _) rfl (ws := [3]) (by kernel_rfl) (by decide) (fun d s b w hF hd hw K_ hK => ?_) ?_
        · have hB : True := trivial
          have e3 : s 30 = .pointer (some ⟨K, off, none⟩) := (p4_ hF.out) (hw 3 (by decide))
          dsimp only
          have cX : w.cell? ⟨K, off, none⟩ = some (.slice p1 t c1) := by rw [((p12_ hF.out) (by cases e : d 11 with | false => rfl | true => exact absurd ((p17_ hF.out) e) (by simp [hd])))]; exact HK.out.drew.at off _ (over_at cs off _ OF.out)
          go_simp
          exact hK.out (ups (ups s 30 (.pointer (some ⟨K, off, none⟩))) 31 (.slice p1 t c1)) b _ ⟨hB, (p1_ hF.out), (p2_ hF.out), (p3_ hF.out), (fun _ => rfl), (fun _ => rfl), (p6_ hF.out), (p7_ hF.out), (p8_ hF.out), (p9_ hF.out), (p10_ hF.out), (p11_ hF.out), (p12_ hF.out), (p13_ hF.out), (p14_ hF.out), (p15_ hF.out), (p16_ hF.out), (fun _ => rfl), (q18_ hF.out)⟩
        refine StepsF.cons (o := _) rfl (ws := []) (by kernel_rfl) (by decide) (fun d s b w hF hd hw K_ hK => ?_) ?_
        · have hB : True := trivial
          dsimp only
          go_simp
          exact hK.out (ups s 32 (.slice q m c)) b _ ⟨hB, (p1_ hF.out), (p2_ hF.out), (p3_ hF.out), (p4_ hF.out), (p5_ hF.out), (fun _ => rfl), (p7_ hF.out), (p8_ hF.out), (p9_ hF.out), (p10_ hF.out), (p11_ hF.out), (p12_ hF.out), (p13_ hF.out), (p14_ hF.out), (p15_ hF.out), (p16_ hF.out), (p17_ hF.out), (q18_ hF.out)⟩
        refine StepsF.cons (o := _) rfl (ws := []) (by kernel_rfl) (by decide) (fun d s b w hF hd hw K_ hK => ?_) ?_
        · have hB : True := trivial
          dsimp only
          go_simp
          exact hK.out (ups s 33 (.slice q m c)) b _ ⟨hB, (p1_ hF.out), (p2_ hF.out), (p3_ hF.out), (p4_ hF.out), (p5_ hF.out), (p6_ hF.out), (fun _ => rfl), (p8_ hF.out), (p9_ hF.out), (p10_ hF.out), (p11_ hF.out), (p12_ hF.out), (p13_ hF.out), (p14_ hF.out), (p15_ hF.out), (p16_ hF.out), (p17_ hF.out), (q18_ hF.out)⟩
        refine StepsF.cons (o := _) rfl (ws := [6]) (by kernel_rfl) (by decide) (fun d s b w hF hd hw K_ hK => ?_) ?_
        · have hB : True := trivial
          have e6 : s 33 = .slice q m c := (p7_ hF.out) (hw 6 (by decide))
          dsimp only
          go_simp
          exact hK.out (ups (ups s 33 (.slice q m c)) 34 (.int .i64 m)) b _ ⟨hB, (p1_ hF.out), (p2_ hF.out), (p3_ hF.out), (p4_ hF.out), (p5_ hF.out), (p6_ hF.out), (fun _ => rfl), (fun _ => rfl), (p9_ hF.out), (p10_ hF.out), (p11_ hF.out), (p12_ hF.out), (p13_ hF.out), (p14_ hF.out), (p15_ hF.out), (p16_ hF.out), (p17_ hF.out), (q18_ hF.out)⟩
        refine StepsF.cons (o := _) rfl (ws := []) (by kernel_rfl) (by decide) (fun d s b w hF hd hw K_ hK => ?_) ?_
        · have hB : True := trivial
          dsimp only
          go_simp
          exact hK.out (ups s 35 (.int .i64 r)) b _ ⟨hB, (p1_ hF.out), (p2_ hF.out), (p3_ hF.out), (p4_ hF.out), (p5_ hF.out), (p6_ hF.out), (p7_ hF.out), (p8_ hF.out), (fun _ => rfl), (p10_ hF.out), (p11_ hF.out), (p12_ hF.out), (p13_ hF.out), (p14_ hF.out), (p15_ hF.out), (p16_ hF.out), (p17_ hF.out), (q18_ hF.out)⟩
        refine StepsF.cons (o := _) rfl (ws := [7, 8]) (by kernel_rfl) (by decide) (fun d s b w hF hd hw K_ hK => ?_) ?_
        · have hB : True := trivial
          have e7 : s 34 = .int .i64 m := (p8_ hF.out) (hw 7 (by decide))
          have e8 : s 35 = .int .i64 r := (p9_ hF.out) (hw 8 (by decide))
          dsimp only
          go_simp
          exact hK.out (ups (ups (ups s 34 (.int .i64 m)) 35 (.int .i64 r)) 36 (.int .i64 m)) b _ ⟨hB, (p1_ hF.out), (p2_ hF.out), (p3_ hF.out), (p4_ hF.out), (p5_ hF.out), (p6_ hF.out), (p7_ hF.out), (fun _ => rfl), (fun _ => rfl), (fun _ => rfl), (p11_ hF.out), (p12_ hF.out), (p13_ hF.out), (p14_ hF.out), (p15_ hF.out), (p16_ hF.out), (p17_ hF.out), (q18_ hF.out)⟩
        refine StepsF.cons (o := _) rfl (ws := [5, 9]) (by kernel_rfl) (by decide) (fun d s b w hF hd hw K_ hK => ?_) ?_
        · have hB : True := trivial
          have e5 : s 32 = .slice q m c := (p6_ hF.out) (hw 5 (by decide))
          have e9 : s 36 = .int .i64 m := (p10_ hF.out) (hw 9 (by decide))
          dsimp only
          go_simp
          exact hK.out (ups (ups (ups s 32 (.slice q m c)) 36 (.int .i64 m)) 37 (.slice q m c)) b _ ⟨hB, (p1_ hF.out), (p2_ hF.out), (p3_ hF.out), (p4_ hF.out), (p5_ hF.out), (fun _ => rfl), (p7_ hF.out), (p8_ hF.out), (p9_ hF.out), (fun _ => rfl), (fun _ => rfl), (p12_ hF.out), (p13_ hF.out), (p14_ hF.out), (p15_ hF.out), (p16_ hF.out), (p17_ hF.out), (q18_ hF.out)⟩
        refine StepsF.cons (o := _) rfl (ws := [4, 10]) (by kernel_rfl) (by decide) (fun d s b w hF hd hw K_ hK => ?_) ?_
        · have hB : True := trivial
          have e4 : s 31 = .slice p1 t c1 := (p5_ hF.out) (hw 4 (by decide))
          have e10 : s 37 = .slice q m c := (p11_ hF.out) (hw 10 (by decide))
          have hq : w = wr.drew := (p12_ hF.out) hd
          subst hq
          obtain ⟨v', w6, hrun, hdat, row, hgr, hrow⟩ := run_append_dat (DK.out.later (Below.refl _ _).drew Kl2) q m c _ (BYq.out.but (But.drew Kl2)) TM.out (Nat.le_trans BU.out.below.size (Below.refl wr.heap.size wr).drew.size)
          have hrel : DatK w6 v' (t + m) g E.heap.size K p0 ∧ Own K (over cs off [.slice p1 t c1]) w6 ∧ But K E w6 := ⟨hdat, HK.out.drew.grown hgr (fun e => by have := hrow K e; have := Kl; omega), (BU.out.trans (But.drew Kl2)).grown hgr hrow Kl⟩
          refine step_run_append rfl (.tmp 31) (.tmp 37) 26 rfl ?a1 ?a2 hrun ?_
          case a1 => exact e4
          case a2 => exact e10
          exact hK.out (ups s 38 (v')) b _ ⟨hB, (p1_ hF.out), (p2_ hF.out), (p3_ hF.out), (p4_ hF.out), (p5_ hF.out), (p6_ hF.out), (p7_ hF.out), (p8_ hF.out), (p9_ hF.out), (p10_ hF.out), (p11_ hF.out), (fun h => nomatch h), (fun _ _ => hrel), (p14_ hF.out), (p15_ hF.out), (fun h => absurd ((q18_ hF.out) h) (by simp [hd])), (fun _ => hw 4 (by decide)), (fun _ => rfl)⟩
        refine StepsF.cons (o := _) rfl (ws := [0, 0, 1, 2, 3, 4, 5, 6, 7, 8, 9, 10, 11]) (by kernel_rfl) (by decide) (fun d s b w hF hd hw K_ hK => ?_) ?_
        · have hB : True := trivial
          have e0 : s 27 = .pointer (some ⟨K, off, none⟩) := (p1_ hF.out) (hw 0 (by decide))
          have e1 : s 28 = .pointer (some ⟨K, off, none⟩) := (p2_ hF.out) (hw 1 (by decide))
          have e2 : s 29 = .pointer (some ⟨K, off, none⟩) := (p3_ hF.out) (hw 2 (by decide))
          have e3 : s 30 = .pointer (some ⟨K, off, none⟩) := (p4_ hF.out) (hw 3 (by decide))
          have e4 : s 31 = .slice p1 t c1 := (p5_ hF.out) (hw 4 (by decide))
          have e5 : s 32 = .slice q m c := (p6_ hF.out) (hw 5 (by decide))
          have e6 : s 33 = .slice q m c := (p7_ hF.out) (hw 6 (by decide))
          have e7 : s 34 = .int .i64 m := (p8_ hF.out) (hw 7 (by decide))
          have e8 : s 35 = .int .i64 r := (p9_ hF.out) (hw 8 (by decide))
          have e9 : s 36 = .int .i64 m := (p10_ hF.out) (hw 9 (by decide))
          have e10 : s 37 = .slice q m c := (p11_ hF.out) (hw 10 (by decide))
          dsimp only
          go_simp
          exact hK.out (ups (ups (ups (ups (ups (ups (ups (ups (ups (ups (ups (ups s 27 (.pointer (some ⟨K, off, none⟩))) 28 (.pointer (some ⟨K, off, none⟩))) 29 (.pointer (some ⟨K, off, none⟩))) 30 (.pointer (some ⟨K, off, none⟩))) 31 (.slice p1 t c1)) 32 (.slice q m c)) 33 (.slice q m c)) 34 (.int .i64 m)) 35 (.int .i64 r)) 36 (.int .i64 m)) 37 (.slice q m c)) 39 (.pointer (some ⟨K, off, none⟩))) b _ ⟨hB, (fun _ => rfl), (fun _ => rfl), (fun _ => rfl), (fun _ => rfl), (fun _ => rfl), (fun _ => rfl), (fun _ => rfl), (fun _ => rfl), (fun _ => rfl), (fun _ => rfl), (fun _ => rfl), (p12_ hF.out), (p13_ hF.out), (fun _ => rfl), (p15_ hF.out), (p16_ hF.out), (p17_ hF.out), (q18_ hF.out)⟩
        refine StepsF.cons (o := _) rfl (ws := [12, 0, 1, 2, 3, 4, 5, 6, 7, 8, 9, 10, 11]) (by kernel_rfl) (by decide) (fun d s b w hF hd hw K_ hK => ?_) ?_
        · have hB : True := trivial
          have e0 : s 27 = .pointer (some ⟨K, off, none⟩) := (p1_ hF.out) (hw 0 (by decide))
          have e1 : s 28 = .pointer (some ⟨K, off, none⟩) := (p2_ hF.out) (hw 1 (by decide))
          have e2 : s 29 = .pointer (some ⟨K, off, none⟩) := (p3_ hF.out) (hw 2 (by decide))
          have e3 : s 30 = .pointer (some ⟨K, off, none⟩) := (p4_ hF.out) (hw 3 (by decide))
          have e4 : s 31 = .slice p1 t c1 := (p5_ hF.out) (hw 4 (by decide))
          have e5 : s 32 = .slice q m c := (p6_ hF.out) (hw 5 (by decide))
          have e6 : s 33 = .slice q m c := (p7_ hF.out) (hw 6 (by decide))
          have e7 : s 34 = .int .i64 m := (p8_ hF.out) (hw 7 (by decide))
          have e8 : s 35 = .int .i64 r := (p9_ hF.out) (hw 8 (by decide))
          have e9 : s 36 = .int .i64 m := (p10_ hF.out) (hw 9 (by decide))
          have e10 : s 37 = .slice q m c := (p11_ hF.out) (hw 10 (by decide))
          have e12 : s 39 = .pointer (some ⟨K, off, none⟩) := (p14_ hF.out) (hw 12 (by decide))
          dsimp only
          go_simp
          exact hK.out (ups (ups (ups (ups (ups (ups (ups (ups (ups (ups (ups (ups (ups s 27 (.pointer (some ⟨K, off, none⟩))) 28 (.pointer (some ⟨K, off, none⟩))) 29 (.pointer (some ⟨K, off, none⟩))) 30 (.pointer (some ⟨K, off, none⟩))) 31 (.slice p1 t c1)) 32 (.slice q m c)) 33 (.slice q m c)) 34 (.int .i64 m)) 35 (.int .i64 r)) 36 (.int .i64 m)) 37 (.slice q m c)) 39 (.pointer (some ⟨K, off, none⟩))) 40 (.pointer (some ⟨K, off, none⟩))) b _ ⟨hB, (fun _ => rfl), (fun _ => rfl), (fun _ => rfl), (fun _ => rfl), (fun _ => rfl), (fun _ => rfl), (fun _ => rfl), (fun _ => rfl), (fun _ => rfl), (fun _ => rfl), (fun _ => rfl), (p12_ hF.out), (p13_ hF.out), (fun _ => rfl), (fun _ => rfl), (p16_ hF.out), (p17_ hF.out), (q18_ hF.out)⟩
        refine StepsF.cons (o := _) rfl (ws := [13, 11, 11, 0, 1, 2, 3, 4, 5, 6, 7, 8, 9, 10, 11]) (by kernel_rfl) (by decide) (fun d s b w hF hd hw K_ hK => ?_) ?_
        · have hB : True := trivial
          have e0 : s 27 = .pointer (some ⟨K, off, none⟩) := (p1_ hF.out) (hw 0 (by decide))
          have e1 : s 28 = .pointer (some ⟨K, off, none⟩) := (p2_ hF.out) (hw 1 (by decide))
          have e2 : s 29 = .pointer (some ⟨K, off, none⟩) := (p3_ hF.out) (hw 2 (by decide))
          have e3 : s 30 = .pointer (some ⟨K, off, none⟩) := (p4_ hF.out) (hw 3 (by decide))
          have e4 : s 31 = .slice p1 t c1 := (p5_ hF.out) (hw 4 (by decide))
          have e5 : s 32 = .slice q m c := (p6_ hF.out) (hw 5 (by decide))
          have e6 : s 33 = .slice q m c := (p7_ hF.out) (hw 6 (by decide))
          have e7 : s 34 = .int .i64 m := (p8_ hF.out) (hw 7 (by decide))
          have e8 : s 35 = .int .i64 r := (p9_ hF.out) (hw 8 (by decide))
          have e9 : s 36 = .int .i64 m := (p10_ hF.out) (hw 9 (by decide))
          have e10 : s 37 = .slice q m c := (p11_ hF.out) (hw 10 (by decide))
          have e13 : s 40 = .pointer (some ⟨K, off, none⟩) := (p15_ hF.out) (hw 13 (by decide))
          dsimp only
          have hr := (p13_ hF.out) (hw 11 (by decide)) hd
          obtain ⟨p2, c2, e2⟩ := hr.1.slice
          rw [e2] at hr
          have fr := hr.2.1.ok off (by rw [over_len cs off _ OF.out]; exact OF.out)
          have ce := hr.2.1.at off _ (over_at cs off _ OF.out)
          have Kl3 := hr.2.1.lt
          go_simp
          exact hK.out (ups (ups (ups (ups (ups (ups (ups (ups (ups (ups (ups (ups (ups s 27 (.pointer (some ⟨K, off, none⟩))) 28 (.pointer (some ⟨K, off, none⟩))) 29 (.pointer (some ⟨K, off, none⟩))) 30 (.pointer (some ⟨K, off, none⟩))) 31 (.slice p1 t c1)) 32 (.slice q m c)) 33 (.slice q m c)) 34 (.int .i64 m)) 35 (.int .i64 r)) 36 (.int .i64 m)) 37 (.slice q m c)) 40 (.pointer (some ⟨K, off, none⟩))) 38 (.slice p2 (t + m) c2)) b _ ⟨hB, (fun _ => rfl), (fun _ => rfl), (fun _ => rfl), (fun _ => rfl), (fun _ => rfl), (fun _ => rfl), (fun _ => rfl), (fun _ => rfl), (fun _ => rfl), (fun _ => rfl), (fun _ => rfl), (fun h => nomatch ((hw 11 (by decide)).symm.trans h)), (fun _ h => nomatch h), (p14_ hF.out), (fun _ => rfl), (fun _ => ⟨w, hr, rfl⟩), (p17_ hF.out), (fun _ => hw 11 (by decide))⟩
        exact StepsF.nil
      intro d s b z1 hF hall
      replace hF := Lib.hid hF
      have hB : True := trivial
      try dsimp only
      have e0 : s 27 = .pointer (some ⟨K, off, none⟩) := (p1_ hF.out) (hall 0 (by decide))
      have e1 : s 28 = .pointer (some ⟨K, off, none⟩) := (p2_ hF.out) (hall 1 (by decide))
      have e2 : s 29 = .pointer (some ⟨K, off, none⟩) := (p3_ hF.out) (hall 2 (by decide))
      have e3 : s 30 = .pointer (some ⟨K, off, none⟩) := (p4_ hF.out) (hall 3 (by decide))
      have e4 : s 31 = .slice p1 t c1 := (p5_ hF.out) (hall 4 (by decide))
      have e5 : s 32 = .slice q m c := (p6_ hF.out) (hall 5 (by decide))
      have e6 : s 33 = .slice q m c := (p7_ hF.out) (hall 6 (by decide))
      have e7 : s 34 = .int .i64 m := (p8_ hF.out) (hall 7 (by decide))
      have e8 : s 35 = .int .i64 r := (p9_ hF.out) (hall 8 (by decide))
      have e9 : s 36 = .int .i64 m := (p10_ hF.out) (hall 9 (by decide))
      have e10 : s 37 = .slice q m c := (p11_ hF.out) (hall 10 (by decide))
      have e12 : s 39 = .pointer (some ⟨K, off, none⟩) := (p14_ hF.out) (hall 12 (by decide))
      have e13 : s 40 = .pointer (some ⟨K, off, none⟩) := (p15_ hF.out) (hall 13 (by decide))
      have f14 := (p16_ hF.out) (hall 14 (by decide))
      rw [e0, e1, e2, e3, e4, e5, e6, e7, e8, e9, e10, e12, e13]
      clear hall hF e0 e1 e2 e3 e4 e5 e6 e7 e8 e9 e10 e12 e13
      obtain ⟨u1, hz⟩ : ∃ x, x = s 38 := ⟨_, rfl⟩
      rw [← hz] at f14 ⊢
      clear hz
      clear d s b
      obtain ⟨w2, hr, rfl⟩ := f14
      have O1 := Lib.hid (hr.1.far (o := off) (vs := [u1]) Kl)
      rw [← HTk.out] at O1
      have O2 := Lib.hid (Own.over1 (b := u1) hr.2.1 OF.out)
      have O3 := Lib.hid (hr.2.2.trans (But.store (K := K) (o := off) (a := w2) (vs := [u1])))
      clear DK HK BU hr hB BYq vc vf
      go_wp2_with (fail)
      go_roundw
      case rel => (first | exact ⟨k + 1, _, HLT.out, by go_num, O1, O2, O3⟩ | ((repeat apply Exists.intro); exact ⟨⟨k + 1, _, HLT.out, by go_num, O1, O2, O3⟩, rfl⟩))
      case measure => (have := HLT.out; simp [intOf]; omega)
    · have hkm : k = np := by omega
      subst hkm
      clear hk hlt
      go_wp2_with (fail)
      refine bodyPost_end (results_none rfl _ _ _) rfl ?_
      exact ⟨_, rfl, DK.out, HK.out, BU.out⟩
end Go.Proofs.Ytbofihejegbfhaa
