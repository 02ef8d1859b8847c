/- The document's directions of vectors (umbraref05.Quant). -/
import Derived.Test.YtgggngcgcpmkbaaOF
import Derived.Test.YtgggngcgcpmkbaaFR
import Derived.Test.YtgggngcgcpmkbaaWE
import Derived.Deep.DeepCutAuto
import Derived.Deep.RegionHeld3
import Derived.LoopTactic
import Derived.LoopN
namespace Go.Proofs.Ytgggngcgcpmkbaa
set_option linter.unusedVariables false
set_option maxRecDepth 2000
set_option linter.unusedSimpArgs false
open Go.RowKit
attribute [local go_sem] setCell_twice setCell_pair

theorem infoInt5 : (Try.prog.info? 3).map (fun i => (i.zero, i.size, i.bytes)) = some (some (.int .i64 0), 1, 8) := by kernel_rfl
theorem own_form5 {w : World} {base : Nat} {e : TypeId} {v : Value} {n : Nat} {xs : List Value} (h : w.ownsRow base e 1 v n xs) : ∃ p k c, v = .slice p k c := by
  rcases h.2 with ⟨rfl, _⟩ | ⟨g, cap, cur, rfl, _⟩
  · exact ⟨_, _, _, rfl⟩
  · exact ⟨_, _, _, rfl⟩
theorem row_full {w : World} {base g n cap : Nat} {e : TypeId} {xs : List Value} (h : w.ownsRow base e 1 (.slice (some ⟨g, 0, none⟩) n cap) n xs) : Own g xs w where
  lt := (row_has h).1.lt
  cell := (row_has h).1.cell
  free := fun j hj => by
    have hl := h.1
    have := h.cellAt j (by omega)
    refine ⟨?_, ?_⟩
    · rw [Nat.zero_add, this, List.getElem?_eq_getElem hj]; rfl
    · rw [Nat.zero_add]; exact h.frozenAt j
theorem row_addr {w : World} {base k n c : Nat} {e : TypeId} {xs : List Value} {p : Option Addr} (h : w.ownsRow base e 1 (.slice p n c) k xs) (hk : 0 < k) : ∃ g, p = some ⟨g, 0, none⟩ ∧ n = k := by
  rcases h.2 with ⟨_, h0⟩ | ⟨g, cap, cur, hv, _⟩
  · omega
  · cases hv; exact ⟨g, rfl, rfl⟩
theorem RQuant_no (x y z : Int) (w : World) (mo : Hid (∀ w, Calls Try.prog 72 #[(.agg #[.int .i64 x, .int .i64 y, .int .i64 z])] w fun e w' => e = .returned (.int .i64 0) ∧ Below w.heap.size w w')) : Calls Try.prog 25 #[(.agg #[.int .i64 x, .int .i64 y, .int .i64 z])] w fun e w' => e = .returned (.tuple #[(.agg #[.int .i64 0, .int .i64 0, .int .i64 0]), .int .i64 2]) ∧ Below w.heap.size w w' := by
  go_enter Try.func25, Try.ntmps25
  go_wp2_with (fail)
  obtain ⟨W0, hW⟩ : ∃ W0, W0 = ((w.alloc (.cells #[.int .i64 x, .int .i64 y, .int .i64 z] 36)).alloc (.cells #[.int .i64 0, .int .i64 0, .int .i64 0] 24)) := ⟨_, rfl⟩
  have hB0 : Below w.heap.size w W0 := hW ▸ (Below.al (Below.al (Below.refl _ _)))
  have HV : Hid (Own w.heap.size [.int .i64 x, .int .i64 y, .int .i64 z] W0) := Lib.hid (hW ▸ (Own.newAt (by simp)).alloc)
  have HR : Hid (Own (w.heap.size + 1) [.int .i64 0, .int .i64 0, .int .i64 0] W0) := Lib.hid (hW ▸ (Own.newAt (by simp)))
  rw [← hW]
  clear hW
  obtain ⟨R, eR⟩ : ∃ X, X = (w.heap.size + 1) := ⟨_, rfl⟩
  rw [← eR] at HR ⊢
  have Rw : w.heap.size ≤ R := by omega
  obtain ⟨V, eV⟩ : ∃ X, X = w.heap.size := ⟨_, rfl⟩
  rw [← eV] at HV ⊢
  have Vw : w.heap.size ≤ V := by omega
  have nVR : V ≠ R := by omega
  have nRV : R ≠ V := by omega
  clear eV eR
  go_at_call 72; refine (mo.out _).mono ?_; rintro e w1 ⟨rfl, hb⟩
  replace HV := Lib.hid (HV.out.later hb); replace HR := Lib.hid (HR.out.later hb)
  have hB := Below.go hB0 hb
  clear hb hB0
  have oR := HR.out
  have R0 := oR.at 0 _ rfl
  have Rf0 := oR.ok 0 (by simp)
  have R1 := oR.at 1 _ rfl
  have Rf1 := oR.ok 1 (by simp)
  have R2 := oR.at 2 _ rfl
  have Rf2 := oR.ok 2 (by simp)
  have Rl := oR.lt
  clear oR
  go_wp2_with (fail)
  have hB2 := Below.refl w1.heap.size w1
  rw [show (((w1.setCell ⟨R, 0, none⟩ (.int .i64 0)).setCell ⟨R, 1, none⟩ (.int .i64 0)).setCell ⟨R, 2, none⟩ (.int .i64 0)) = w1.setCells R 0 [.int .i64 0, .int .i64 0, .int .i64 0] from rfl]
  have HRn : Hid (Own R [.int .i64 0, .int .i64 0, .int .i64 0] (w1.setCells R 0 [.int .i64 0, .int .i64 0, .int .i64 0])) := Lib.hid (Own.store (vs := [.int .i64 0, .int .i64 0, .int .i64 0]) (HR.out.later hB2) rfl)
  have W6b : Below w.heap.size w (w1.setCells R 0 [.int .i64 0, .int .i64 0, .int .i64 0]) := Below.setCells hB Rw [.int .i64 0, .int .i64 0, .int .i64 0] 0
  generalize (w1.setCells R 0 [.int .i64 0, .int .i64 0, .int .i64 0]) = W6 at *
  clear HR hB2
  have HR := HRn
  clear HRn
  clear R0 R1 R2 Rf0 Rf1 Rf2 Rl
  have oR := HR.out
  have R0 := oR.at 0 _ rfl
  have R1 := oR.at 1 _ rfl
  have R2 := oR.at 2 _ rfl
  have Rl := oR.lt
  clear oR
  exact bodyPost_ret (v := (.tuple #[(.agg #[.int .i64 0, .int .i64 0, .int .i64 0]), .int .i64 2])) (by simp [results, Try.results25, go_sem, R0, R1, R2]) rfl ⟨rfl, W6b⟩
set_option maxHeartbeats 8000000 in
theorem RQuant_yes (x y z m : Int) (f g : Nat → Int) (f0 : f 0 = x) (f1 : f 1 = y) (f2 : f 2 = z) (h1 : 1 ≤ m) (h2 : m ≤ 9223372036854775807) (w : World) (mo : Hid (∀ w, Calls Try.prog 72 #[(.agg #[.int .i64 x, .int .i64 y, .int .i64 z])] w fun e w' => e = .returned (.int .i64 m) ∧ Below w.heap.size w w'))
    (ct : ∀ k, k < 3 → ∃ s H Lo q r : Int, Hid (∀ w, Calls Try.prog 74 #[.int .i64 (f k)] w fun e w' => e = .returned (.int .u64 s) ∧ w = w') ∧
      Hid (∀ w, Calls Try.prog 73 #[.int .u64 s, .int .u64 16384] w fun e w' => e = .returned (.tuple #[.int .u64 H, .int .u64 Lo]) ∧ w = w') ∧
      Hid (∀ w, Calls Try.prog 75 #[.int .u64 H, .int .u64 Lo, .int .u64 m] w fun e w' => e = .returned (.tuple #[.int .u64 q, .int .u64 r]) ∧ ∃ n, w' = w.drewN n) ∧
      0 ≤ q ∧ q ≤ 16385 ∧ 0 ≤ r ∧ Hid (g k = if f k < 0 then (if 0 < r then (if -q - 1 < -16384 then -16384 else -q - 1) else (if -q < -16384 then -16384 else -q)) else q)) :
    Calls Try.prog 25 #[(.agg #[.int .i64 x, .int .i64 y, .int .i64 z])] w fun e w' => e = .returned (.tuple #[(.agg #[.int .i64 (g 0), .int .i64 (g 1), .int .i64 (g 2)]), .int .i64 0]) ∧ Below w.heap.size w w' := by
  obtain ⟨i0, hi, hz0, hz1, hz2⟩ := info_parts infoInt5
  have CT := Lib.hid ct
  clear ct
  have hc0 : (m == 0) = false := by simp; omega
  go_enter Try.func25, Try.ntmps25
  go_wp2_with (fail)
  obtain ⟨W0, hW⟩ : ∃ W0, W0 = ((w.alloc (.cells #[.int .i64 x, .int .i64 y, .int .i64 z] 36)).alloc (.cells #[.int .i64 0, .int .i64 0, .int .i64 0] 24)) := ⟨_, rfl⟩
  have hB0 : Below w.heap.size w W0 := hW ▸ (Below.al (Below.al (Below.refl _ _)))
  have HV : Hid (Own w.heap.size [.int .i64 x, .int .i64 y, .int .i64 z] W0) := Lib.hid (hW ▸ (Own.newAt (by simp)).alloc)
  have HR : Hid (Own (w.heap.size + 1) [.int .i64 0, .int .i64 0, .int .i64 0] W0) := Lib.hid (hW ▸ (Own.newAt (by simp)))
  rw [← hW]
  clear hW
  obtain ⟨R, eR⟩ : ∃ X, X = (w.heap.size + 1) := ⟨_, rfl⟩
  rw [← eR] at HR ⊢
  have Rw : w.heap.size ≤ R := by omega
  obtain ⟨V, eV⟩ : ∃ X, X = w.heap.size := ⟨_, rfl⟩
  rw [← eV] at HV ⊢
  have Vw : w.heap.size ≤ V := by omega
  have nVR : V ≠ R := by omega
  have nRV : R ≠ V := by omega
  clear eV eR
  go_at_call 72; refine (mo.out _).mono ?_; rintro e w1 ⟨rfl, hb⟩
  replace HV := Lib.hid (HV.out.later hb); replace HR := Lib.hid (HR.out.later hb)
  have hB := Below.go hB0 hb
  clear hb hB0
  have oV := HV.out
  have V0 := oV.at 0 _ rfl
  have V1 := oV.at 1 _ rfl
  have V2 := oV.at 2 _ rfl
  have Vl := oV.lt
  clear oV
  go_wp2_with (fail)
  clear V0 V1 V2 Vl
  obtain ⟨W2, hW⟩ : ∃ W2, W2 = (w1.alloc (.cells #[.int .i64 x, .int .i64 y, .int .i64 z] 34)) := ⟨_, rfl⟩
  have hq : Below w1.heap.size w1 W2 := hW ▸ (Below.al (Below.refl _ _))
  have HL : Hid (Own w1.heap.size [.int .i64 x, .int .i64 y, .int .i64 z] W2) := Lib.hid (hW ▸ (Own.newAt (by simp)))
  rw [← hW]
  clear hW
  obtain ⟨L, eL⟩ : ∃ X, X = w1.heap.size := ⟨_, rfl⟩
  rw [← eL] at HL ⊢
  have Lw : w1.heap.size ≤ L := by omega
  clear eL
  replace HR := Lib.hid (HR.out.later hq)
  have hB2 : Below w.heap.size w W2 := Below.go hB hq
  have HRlt := Lib.hid HR.out.lt
  clear hq hB HV
  have F0 := Lib.hid f0; have F1 := Lib.hid f1; have F2 := Lib.hid f2
  clear f0 f1 f2
  go_loopw [6, 7] (fun v i wr => ∃ (k : Nat), k ≤ 3 ∧ i = .int .i64 k ∧ Hid (wr.ownsRow W2.heap.size 3 1 v k ((List.range k).map fun j => Value.int .i64 (g j))) ∧ Below W2.heap.size W2 wr ∧ Hid (∃ p n c, v = .slice p n c)) (fun _ i _ => (3 - (intOf i).toNat))
  case atStart => exact ⟨0, by omega, rfl, Lib.hid ⟨rfl, .inl ⟨rfl, rfl⟩⟩, Below.refl _ _, Lib.hid ⟨_, _, _, rfl⟩⟩
  case round =>
    obtain ⟨k, hk, rfl, hown, hC, hv⟩ := hrel
    obtain ⟨p_, n_, c_, rfl⟩ := hv.out
    clear hv
    by_cases hlt : k < 3
    · obtain ⟨s, H, Lo, q, r, sz, ml, dv, q0, q1, r0, hG⟩ := CT.out k hlt
      have hc : wr.cell? ⟨L, k, none⟩ = some (.int .i64 (f k)) := by
        have o := HL.out.later hC
        rcases (show k = 0 ∨ k = 1 ∨ k = 2 by omega) with rfl | rfl | rfl
        · rw [F0.out]; exact o.at 0 _ rfl
        · rw [F1.out]; exact o.at 1 _ rfl
        · rw [F2.out]; exact o.at 2 _ rfl
      have st : (List.range (k + 1)).map (fun j => Value.int .i64 (g j)) = (List.range k).map (fun j => Value.int .i64 (g j)) ++ [.int .i64 (g k)] := by rw [List.range_succ, List.map_append]; rfl
      generalize g k = G at *
      generalize f k = t at *
      have ST := Lib.hid st
      clear st
      go_wp2_with (first | (go_at_call 74; refine (sz.out _).mono ?_; rintro e w5 ⟨rfl, rfl⟩) | (go_at_call 73; refine (ml.out _).mono ?_; rintro e w5 ⟨rfl, rfl⟩))
      go_at_call 75; refine (dv.out _).mono ?_; rintro e w5 ⟨rfl, nd, rfl⟩
      have hbD : Below wr.heap.size wr (wr.drewN nd) := below_drewN (Below.refl _ _) _
      generalize wr.drewN nd = wd at *
      have hcd : wd.cell? ⟨L, k, none⟩ = some (.int .i64 t) := by rw [hbD.cell (p := ⟨L, k, none⟩) (HL.out.later hC).lt]; exact hc
      have OW := Lib.hid (row_later hown.out hbD)
      have hD := Below.go hC hbD
      have hs := hD.size
      clear hc hown hC hbD CT sz ml dv mo
      by_cases ht : t < 0
      · by_cases hr : 0 < r
        · by_cases hq : -q - 1 < -16384
          · have hG2 := hG.out; rw [if_pos ht, if_pos hr, if_pos hq] at hG2
            replace hG2 := Lib.hid hG2; clear hG
            go_wp2_with (at_builtin; refine wpList_append_own _ rfl _ _ 53 rfl (W2.heap.size) 3 i0 (.int .i64 0) 1 8 Try.underlying53 hi hz0 hz1 hz2 rfl (by decide) _ _ _ rfl (OW.out.alloc _) ⟨wd.heap.size, 0, none⟩ 1 1 [.int .i64 (-16384)] rfl rfl ?c1 ?c2 ?c3 ?c4 ?c5 ?_; (case c1 => exact cell_one_new _ _ _); (case c2 => simp [Value.oneCell']); (case c3 => unfold maxLen; omega); (case c4 => omega); (case c5 => simp; omega); intro v' w6 hown6 hgrow _; have h6 : Below W2.heap.size W2 w6 := Below.gro (Below.al hD) hgrow (OW.out.alloc _) (Nat.le_refl _); clear hgrow; obtain ⟨pp, nn, cp, hv'⟩ := own_form5 hown6; rw [hv'] at hown6; rw [hv']; clear hv'; have O6 := Lib.hid hown6; clear hown6)
            go_roundw
            case rel => (have O7 : Hid (w6.ownsRow W2.heap.size 3 1 (.slice pp nn cp) (k + 1) ((List.range (k + 1)).map fun j => Value.int .i64 (g j))) := Lib.hid (by rw [ST.out, hG2.out]; exact O6.out); first | exact ⟨k + 1, by omega, by go_num, O7, h6, Lib.hid ⟨_, _, _, rfl⟩⟩ | ((repeat apply Exists.intro); exact ⟨⟨k + 1, by omega, by go_num, O7, h6, Lib.hid ⟨_, _, _, rfl⟩⟩, rfl⟩))
            case measure => simp [intOf]; omega
          · have hG2 := hG.out; rw [if_pos ht, if_pos hr, if_neg hq] at hG2
            replace hG2 := Lib.hid hG2; clear hG
            go_wp2_with (at_builtin; refine wpList_append_own _ rfl _ _ 53 rfl (W2.heap.size) 3 i0 (.int .i64 0) 1 8 Try.underlying53 hi hz0 hz1 hz2 rfl (by decide) _ _ _ rfl (OW.out.alloc _) ⟨wd.heap.size, 0, none⟩ 1 1 [.int .i64 (-q - 1)] rfl rfl ?c1 ?c2 ?c3 ?c4 ?c5 ?_; (case c1 => exact cell_one_new _ _ _); (case c2 => simp [Value.oneCell']); (case c3 => unfold maxLen; omega); (case c4 => omega); (case c5 => simp; omega); intro v' w6 hown6 hgrow _; have h6 : Below W2.heap.size W2 w6 := Below.gro (Below.al hD) hgrow (OW.out.alloc _) (Nat.le_refl _); clear hgrow; obtain ⟨pp, nn, cp, hv'⟩ := own_form5 hown6; rw [hv'] at hown6; rw [hv']; clear hv'; have O6 := Lib.hid hown6; clear hown6)
            go_roundw
            case rel => (have O7 : Hid (w6.ownsRow W2.heap.size 3 1 (.slice pp nn cp) (k + 1) ((List.range (k + 1)).map fun j => Value.int .i64 (g j))) := Lib.hid (by rw [ST.out, hG2.out]; exact O6.out); first | exact ⟨k + 1, by omega, by go_num, O7, h6, Lib.hid ⟨_, _, _, rfl⟩⟩ | ((repeat apply Exists.intro); exact ⟨⟨k + 1, by omega, by go_num, O7, h6, Lib.hid ⟨_, _, _, rfl⟩⟩, rfl⟩))
            case measure => simp [intOf]; omega
        · by_cases hq : -q < -16384
          · have hG2 := hG.out; rw [if_pos ht, if_neg hr, if_pos hq] at hG2
            replace hG2 := Lib.hid hG2; clear hG
            go_wp2_with (at_builtin; refine wpList_append_own _ rfl _ _ 53 rfl (W2.heap.size) 3 i0 (.int .i64 0) 1 8 Try.underlying53 hi hz0 hz1 hz2 rfl (by decide) _ _ _ rfl (OW.out.alloc _) ⟨wd.heap.size, 0, none⟩ 1 1 [.int .i64 (-16384)] rfl rfl ?c1 ?c2 ?c3 ?c4 ?c5 ?_; (case c1 => exact cell_one_new _ _ _); (case c2 => simp [Value.oneCell']); (case c3 => unfold maxLen; omega); (case c4 => omega); (case c5 => simp; omega); intro v' w6 hown6 hgrow _; have h6 : Below W2.heap.size W2 w6 := Below.gro (Below.al hD) hgrow (OW.out.alloc _) (Nat.le_refl _); clear hgrow; obtain ⟨pp, nn, cp, hv'⟩ := own_form5 hown6; rw [hv'] at hown6; rw [hv']; clear hv'; have O6 := Lib.hid hown6; clear hown6)
            go_roundw
            case rel => (have O7 : Hid (w6.ownsRow W2.heap.size 3 1 (.slice pp nn cp) (k + 1) ((List.range (k + 1)).map fun j => Value.int .i64 (g j))) := Lib.hid (by rw [ST.out, hG2.out]; exact O6.out); first | exact ⟨k + 1, by omega, by go_num, O7, h6, Lib.hid ⟨_, _, _, rfl⟩⟩ | ((repeat apply Exists.intro); exact ⟨⟨k + 1, by omega, by go_num, O7, h6, Lib.hid ⟨_, _, _, rfl⟩⟩, rfl⟩))
            case measure => simp [intOf]; omega
          · have hG2 := hG.out; rw [if_pos ht, if_neg hr, if_neg hq] at hG2
            replace hG2 := Lib.hid hG2; clear hG
            go_wp2_with (at_builtin; refine wpList_append_own _ rfl _ _ 53 rfl (W2.heap.size) 3 i0 (.int .i64 0) 1 8 Try.underlying53 hi hz0 hz1 hz2 rfl (by decide) _ _ _ rfl (OW.out.alloc _) ⟨wd.heap.size, 0, none⟩ 1 1 [.int .i64 (-q)] rfl rfl ?c1 ?c2 ?c3 ?c4 ?c5 ?_; (case c1 => exact cell_one_new _ _ _); (case c2 => simp [Value.oneCell']); (case c3 => unfold maxLen; omega); (case c4 => omega); (case c5 => simp; omega); intro v' w6 hown6 hgrow _; have h6 : Below W2.heap.size W2 w6 := Below.gro (Below.al hD) hgrow (OW.out.alloc _) (Nat.le_refl _); clear hgrow; obtain ⟨pp, nn, cp, hv'⟩ := own_form5 hown6; rw [hv'] at hown6; rw [hv']; clear hv'; have O6 := Lib.hid hown6; clear hown6)
            go_roundw
            case rel => (have O7 : Hid (w6.ownsRow W2.heap.size 3 1 (.slice pp nn cp) (k + 1) ((List.range (k + 1)).map fun j => Value.int .i64 (g j))) := Lib.hid (by rw [ST.out, hG2.out]; exact O6.out); first | exact ⟨k + 1, by omega, by go_num, O7, h6, Lib.hid ⟨_, _, _, rfl⟩⟩ | ((repeat apply Exists.intro); exact ⟨⟨k + 1, by omega, by go_num, O7, h6, Lib.hid ⟨_, _, _, rfl⟩⟩, rfl⟩))
            case measure => simp [intOf]; omega
      · have hG2 := hG.out; rw [if_neg ht] at hG2
        replace hG2 := Lib.hid hG2; clear hG
        go_wp2_with (at_builtin; refine wpList_append_own _ rfl _ _ 53 rfl (W2.heap.size) 3 i0 (.int .i64 0) 1 8 Try.underlying53 hi hz0 hz1 hz2 rfl (by decide) _ _ _ rfl (OW.out.alloc _) ⟨wd.heap.size, 0, none⟩ 1 1 [.int .i64 (q)] rfl rfl ?c1 ?c2 ?c3 ?c4 ?c5 ?_; (case c1 => exact cell_one_new _ _ _); (case c2 => simp [Value.oneCell']); (case c3 => unfold maxLen; omega); (case c4 => omega); (case c5 => simp; omega); intro v' w6 hown6 hgrow _; have h6 : Below W2.heap.size W2 w6 := Below.gro (Below.al hD) hgrow (OW.out.alloc _) (Nat.le_refl _); clear hgrow; obtain ⟨pp, nn, cp, hv'⟩ := own_form5 hown6; rw [hv'] at hown6; rw [hv']; clear hv'; have O6 := Lib.hid hown6; clear hown6)
        go_roundw
        case rel => (have O7 : Hid (w6.ownsRow W2.heap.size 3 1 (.slice pp nn cp) (k + 1) ((List.range (k + 1)).map fun j => Value.int .i64 (g j))) := Lib.hid (by rw [ST.out, hG2.out]; exact O6.out); first | exact ⟨k + 1, by omega, by go_num, O7, h6, Lib.hid ⟨_, _, _, rfl⟩⟩ | ((repeat apply Exists.intro); exact ⟨⟨k + 1, by omega, by go_num, O7, h6, Lib.hid ⟨_, _, _, rfl⟩⟩, rfl⟩))
        case measure => simp [intOf]; omega
    · obtain rfl : k = 3 := by omega
      obtain ⟨X, rfl, rfl⟩ := row_addr hown.out (by omega)
      have HX : Hid (Own X [.int .i64 (g 0), .int .i64 (g 1), .int .i64 (g 2)] wr) := Lib.hid (row_full hown.out)
      replace HR := Lib.hid (HR.out.later hC)
      have hB6 : Below w.heap.size w wr := Below.go hB2 hC
      have nXR : X ≠ R := by
        have h1 := row_ge hown.out X (by simp [Value.ownBlock])
        intro h; subst h
        have := HRlt.out; omega
      clear hown hk hlt CT HL hC hB2 F0 F1 F2 mo
      go_wp2_with (fail)
      have oR := HR.out
      have R0 := oR.at 0 _ rfl
      have Rf0 := oR.ok 0 (by simp)
      have R1 := oR.at 1 _ rfl
      have Rf1 := oR.ok 1 (by simp)
      have R2 := oR.at 2 _ rfl
      have Rf2 := oR.ok 2 (by simp)
      have Rl := oR.lt
      clear oR
      have hBr := Below.refl wr.heap.size wr
      have hBd : Below wr.heap.size wr wr.drew := (Below.refl _ _).drew
      have SH : Hid (∀ w', Below wr.heap.size wr w' → w'.cell? ⟨X, 0, none⟩ = some (.int .i64 (g 0)) ∧ w'.cell? ⟨X, 1, none⟩ = some (.int .i64 (g 1)) ∧ w'.cell? ⟨X, 2, none⟩ = some (.int .i64 (g 2))) := Lib.hid fun w' hb => ⟨(HX.out.later hb).at 0 _ rfl, (HX.out.later hb).at 1 _ rfl, (HX.out.later hb).at 2 _ rfl⟩
      have SF : Hid (∀ w', Below wr.heap.size wr w' → (w'.setCells R 0 [.int .i64 (g 0), .int .i64 (g 1), .int .i64 (g 2)]).cell? ⟨X, 0, none⟩ = some (.int .i64 (g 0)) ∧ (w'.setCells R 0 [.int .i64 (g 0), .int .i64 (g 1), .int .i64 (g 2)]).cell? ⟨X, 1, none⟩ = some (.int .i64 (g 1)) ∧ (w'.setCells R 0 [.int .i64 (g 0), .int .i64 (g 1), .int .i64 (g 2)]).cell? ⟨X, 2, none⟩ = some (.int .i64 (g 2))) := Lib.hid fun w' hb => ⟨((HX.out.later hb).far nXR).at 0 _ rfl, ((HX.out.later hb).far nXR).at 1 _ rfl, ((HX.out.later hb).far nXR).at 2 _ rfl⟩
      go_region_held3 (fun w' => w'.cell? ⟨X, 0, none⟩ = some (.int .i64 (g 0)) ∧ w'.cell? ⟨X, 1, none⟩ = some (.int .i64 (g 1)) ∧ w'.cell? ⟨X, 2, none⟩ = some (.int .i64 (g 2))) (first | exact SH.out _ (by assumption) | exact SH.out _ (Below.al (by assumption)) | exact SF.out _ (by assumption)) (fail)
      rw [show (((wr.setCell ⟨R, 0, none⟩ (.int .i64 (g 0))).setCell ⟨R, 1, none⟩ (.int .i64 (g 1))).setCell ⟨R, 2, none⟩ (.int .i64 (g 2))) = wr.setCells R 0 [.int .i64 (g 0), .int .i64 (g 1), .int .i64 (g 2)] from rfl]
      have hB := hBr
      clear hBd hBr SH SF R0 R1 R2 Rf0 Rf1 Rf2 Rl HX
      have HRn : Hid (Own R [.int .i64 (g 0), .int .i64 (g 1), .int .i64 (g 2)] (wr.setCells R 0 [.int .i64 (g 0), .int .i64 (g 1), .int .i64 (g 2)])) := Lib.hid (Own.store (vs := [.int .i64 (g 0), .int .i64 (g 1), .int .i64 (g 2)]) (HR.out.later hB) rfl)
      have W6b : Below w.heap.size w (wr.setCells R 0 [.int .i64 (g 0), .int .i64 (g 1), .int .i64 (g 2)]) := Below.setCells hB6 Rw [.int .i64 (g 0), .int .i64 (g 1), .int .i64 (g 2)] 0
      generalize (wr.setCells R 0 [.int .i64 (g 0), .int .i64 (g 1), .int .i64 (g 2)]) = W6 at *
      clear HR hB
      have HR := HRn
      clear HRn
      have oR := HR.out
      have R0 := oR.at 0 _ rfl
      have R1 := oR.at 1 _ rfl
      have R2 := oR.at 2 _ rfl
      have Rl := oR.lt
      clear oR
      go_wp2
      exact bodyPost_ret (v := (.tuple #[(.agg #[.int .i64 (g 0), .int .i64 (g 1), .int .i64 (g 2)]), .int .i64 0])) (by simp [results, Try.results25, go_sem, R0, R1, R2]) rfl ⟨rfl, W6b.drew⟩
theorem q_step (t m : Int) (hm : 1 ≤ m) (h : mostOk t m) (g : Int) (hg : g = qP t m) :
    0 ≤ (t.natAbs : Int) * 16384 / m ∧ (t.natAbs : Int) * 16384 / m ≤ 16385 ∧ 0 ≤ (t.natAbs : Int) * 16384 % m ∧
      g = if t < 0 then (if 0 < (t.natAbs : Int) * 16384 % m then (if -((t.natAbs : Int) * 16384 / m) - 1 < -16384 then -16384 else -((t.natAbs : Int) * 16384 / m) - 1) else (if -((t.natAbs : Int) * 16384 / m) < -16384 then -16384 else -((t.natAbs : Int) * 16384 / m))) else (t.natAbs : Int) * 16384 / m := by
  have pb := part_bd t m hm h
  have e := Int.mul_ediv_add_emod (16384 * t) m
  have r0 := Int.emod_nonneg (16384 * t) (show m ≠ 0 by omega)
  have r1 := Int.emod_lt_of_pos (16384 * t) (show 0 < m by omega)
  have e2 := Int.mul_ediv_add_emod ((t.natAbs : Int) * 16384) m
  have s0 := Int.emod_nonneg ((t.natAbs : Int) * 16384) (show m ≠ 0 by omega)
  have s1 := Int.emod_lt_of_pos ((t.natAbs : Int) * 16384) (show 0 < m by omega)
  have d0 : 0 ≤ (t.natAbs : Int) * 16384 / m := Int.ediv_nonneg (by omega) (by omega)
  subst hg
  unfold qP
  by_cases ht : t < 0
  · have en : (t.natAbs : Int) = -t := by omega
    generalize (t.natAbs : Int) = u at *
    have key : (0 < u * 16384 % m ∧ 16384 * t / m = -(u * 16384 / m) - 1) ∨ (u * 16384 % m = 0 ∧ 16384 * t / m = -(u * 16384 / m)) := by
      generalize 16384 * t / m = Q at *
      generalize 16384 * t % m = P at *
      generalize u * 16384 / m = q at *
      generalize u * 16384 % m = r at *
      have es : m * Q + P = -(m * q + r) := by omega
      have es2 : m * (Q + q) = -(P + r) := by rw [Int.mul_add]; omega
      by_cases c0 : Q + q = 0
      · right; rw [c0, Int.mul_zero] at es2; omega
      · have c1 : Q + q = -1 := by
          have u1 : Q + q < 0 := by
            by_cases a : Q + q < 0
            · exact a
            · have : 0 < Q + q := by omega
              have := Int.mul_le_mul_of_nonneg_left (show (1 : Int) ≤ Q + q by omega) (show 0 ≤ m by omega)
              omega
          by_cases a : Q + q < -1
          · have := Int.mul_le_mul_of_nonneg_left (show Q + q ≤ -2 by omega) (show 0 ≤ m by omega)
            omega
          · omega
        left; rw [c1] at es2; omega
    rw [if_pos ht]
    generalize 16384 * t / m = Q at *
    generalize u * 16384 / m = q at *
    generalize u * 16384 % m = r at *
    refine ⟨d0, by omega, s0, ?_⟩
    rcases key with ⟨k1, k2⟩ | ⟨k1, k2⟩
    · rw [if_pos k1, k2]
    · rw [if_neg (show ¬0 < r by omega), k2]
  · have en : (t.natAbs : Int) = t := by omega
    rw [if_neg ht]
    have ec : (t.natAbs : Int) * 16384 = 16384 * t := by omega
    rw [ec] at d0 s0 ⊢
    generalize 16384 * t / m = Q at *
    exact ⟨d0, by omega, s0, by rw [if_neg (by omega)]⟩
theorem RQuant_none (x y z : Int) (hx : in64 x) (hy : in64 y) (hz : in64 z) (h : mostF x y z = 0) (w : World) : Calls Try.prog 25 #[(.agg #[.int .i64 x, .int .i64 y, .int .i64 z])] w fun e w' => e = .returned (.tuple #[(.agg #[.int .i64 0, .int .i64 0, .int .i64 0]), .int .i64 2]) ∧ Below w.heap.size w w' :=
  RQuant_no x y z w (Lib.hid fun w => h ▸ RVMost_any x y z hx hy hz w)
theorem RQuant_any (x y z : Int) (hx : in64 x) (hy : in64 y) (hz : in64 z) (h : mostF x y z ≠ 0) (w : World) : Calls Try.prog 25 #[(.agg #[.int .i64 x, .int .i64 y, .int .i64 z])] w fun e w' => e = .returned (quaV x y z) ∧ Below w.heap.size w w' := by
  obtain ⟨m0, m1, ax, ay, az⟩ := most_bd x y z hx hy hz
  have hm : 1 ≤ mostF x y z := by omega
  have ct : ∀ t, in64 t → mostOk t (mostF x y z) → ∃ s H Lo q r : Int, Hid (∀ w, Calls Try.prog 74 #[.int .i64 t] w fun e w' => e = .returned (.int .u64 s) ∧ w = w') ∧
      Hid (∀ w, Calls Try.prog 73 #[.int .u64 s, .int .u64 16384] w fun e w' => e = .returned (.tuple #[.int .u64 H, .int .u64 Lo]) ∧ w = w') ∧
      Hid (∀ w, Calls Try.prog 75 #[.int .u64 H, .int .u64 Lo, .int .u64 (mostF x y z)] w fun e w' => e = .returned (.tuple #[.int .u64 q, .int .u64 r]) ∧ ∃ n, w' = w.drewN n) ∧
      0 ≤ q ∧ q ≤ 16385 ∧ 0 ≤ r ∧ Hid (qP t (mostF x y z) = if t < 0 then (if 0 < r then (if -q - 1 < -16384 then -16384 else -q - 1) else (if -q < -16384 then -16384 else -q)) else q) := by
    intro t ht ok
    unfold in64 at ht
    obtain ⟨q0, q1, r0, hg⟩ := q_step t (mostF x y z) hm ok _ rfl
    have ok2 := ok
    unfold mostOk at ok2
    generalize mostF x y z = m at *
    have s0 : 0 ≤ (t.natAbs : Int) ∧ (t.natAbs : Int) ≤ 9223372036854775808 := by omega
    have hH : hi ((t.natAbs : Int) * 16384) * 18446744073709551616 + lo ((t.natAbs : Int) * 16384) = (t.natAbs : Int) * 16384 := by unfold hi lo; omega
    have hl : 0 ≤ lo ((t.natAbs : Int) * 16384) ∧ lo ((t.natAbs : Int) * 16384) ≤ 18446744073709551615 := by unfold lo; omega
    have hh : 0 ≤ hi ((t.natAbs : Int) * 16384) ∧ hi ((t.natAbs : Int) * 16384) < m := by unfold hi; omega
    refine ⟨t.natAbs, hi ((t.natAbs : Int) * 16384), lo ((t.natAbs : Int) * 16384), (t.natAbs : Int) * 16384 / m, (t.natAbs : Int) * 16384 % m, Lib.hid (size_any t ht.1 ht.2), Lib.hid (Mul64_any _ 16384 (by omega) (by omega) (by omega) (by omega)), Lib.hid fun w => ?_, q0, q1, r0, Lib.hid hg⟩
    have := Div64_any _ _ m hh.1 hh.2 (by omega) hl.1 hl.2 w
    rw [hH] at this
    exact this
  have res := RQuant_yes x y z (mostF x y z) (fun k => if k = 0 then x else if k = 1 then y else z) (fun k => if k = 0 then qP x (mostF x y z) else if k = 1 then qP y (mostF x y z) else qP z (mostF x y z)) rfl rfl rfl hm (by omega) w (Lib.hid (RVMost_any x y z hx hy hz)) (fun k hk => by
    rcases (show k = 0 ∨ k = 1 ∨ k = 2 by omega) with rfl | rfl | rfl
    · exact ct x hx ax
    · exact ct y hy ay
    · exact ct z hz az)
  exact res
end Go.Proofs.Ytgggngcgcpmkbaa
