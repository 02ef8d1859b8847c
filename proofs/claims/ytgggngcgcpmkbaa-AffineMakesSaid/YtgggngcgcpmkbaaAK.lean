/- affine.Check, and the document's. -/
import Derived.Test.YtgggngcgcpmkbaaKA
import Derived.Test.YtgggngcgcpmkbaaVN
import Derived.LoopN
import Derived.LoopTactic
import Derived.Deep.DeepCutAuto
namespace Go.Proofs.Ytgggngcgcpmkbaa
set_option linter.unusedVariables false
set_option maxRecDepth 2000
set_option linter.unusedSimpArgs false
open Go.RowKit
attribute [local go_sem] setCell_twice setCell_pair

/-- P4.4 -/
def chkF (l : List Int) (t : Int) : Int := if l.any (fun m => decide (1099511627776 < absF m)) || decide (562949953421312 < t) then 2 else 0

theorem nth9 (m0 m1 m2 m3 m4 m5 m6 m7 m8 : Int) (k : Nat) (hk : k < 9) : (#[.int .i64 m0, .int .i64 m1, .int .i64 m2, .int .i64 m3, .int .i64 m4, .int .i64 m5, .int .i64 m6, .int .i64 m7, .int .i64 m8] : Array Value)[k]? = some (.int .i64 ([m0, m1, m2, m3, m4, m5, m6, m7, m8].getD k 0)) := match k, hk with
  | 0, _ => rfl
  | 1, _ => rfl
  | 2, _ => rfl
  | 3, _ => rfl
  | 4, _ => rfl
  | 5, _ => rfl
  | 6, _ => rfl
  | 7, _ => rfl
  | 8, _ => rfl
theorem nth12 (m0 m1 m2 m3 m4 m5 m6 m7 m8 tx ty tz : Int) (k : Nat) (hk : k < 9) : ([.int .i64 m0, .int .i64 m1, .int .i64 m2, .int .i64 m3, .int .i64 m4, .int .i64 m5, .int .i64 m6, .int .i64 m7, .int .i64 m8, .int .i64 tx, .int .i64 ty, .int .i64 tz] : List Value)[k]? = some (.int .i64 ([m0, m1, m2, m3, m4, m5, m6, m7, m8].getD k 0)) := match k, hk with
  | 0, _ => rfl
  | 1, _ => rfl
  | 2, _ => rfl
  | 3, _ => rfl
  | 4, _ => rfl
  | 5, _ => rfl
  | 6, _ => rfl
  | 7, _ => rfl
  | 8, _ => rfl
theorem in9 (m0 m1 m2 m3 m4 m5 m6 m7 m8 : Int) (h0 : in64 m0) (h1 : in64 m1) (h2 : in64 m2) (h3 : in64 m3) (h4 : in64 m4) (h5 : in64 m5) (h6 : in64 m6) (h7 : in64 m7) (h8 : in64 m8) (k : Nat) (hk : k < 9) : in64 ([m0, m1, m2, m3, m4, m5, m6, m7, m8].getD k 0) := match k, hk with
  | 0, _ => h0
  | 1, _ => h1
  | 2, _ => h2
  | 3, _ => h3
  | 4, _ => h4
  | 5, _ => h5
  | 6, _ => h6
  | 7, _ => h7
  | 8, _ => h8
theorem chk_yes (m0 m1 m2 m3 m4 m5 m6 m7 m8 t : Int) (k : Nat) (hk : k < 9) (h : 1099511627776 < absF ([m0, m1, m2, m3, m4, m5, m6, m7, m8].getD k 0)) : chkF [m0, m1, m2, m3, m4, m5, m6, m7, m8] t = 2 := by
  unfold chkF
  rw [if_pos]
  rw [Bool.or_eq_true]
  left
  rw [List.any_eq_true]
  exact ⟨[m0, m1, m2, m3, m4, m5, m6, m7, m8].getD k 0, (by match k, hk with
    | 0, _ => simp
    | 1, _ => simp
    | 2, _ => simp
    | 3, _ => simp
    | 4, _ => simp
    | 5, _ => simp
    | 6, _ => simp
    | 7, _ => simp
    | 8, _ => simp), by simpa using h⟩
theorem chk_no (m0 m1 m2 m3 m4 m5 m6 m7 m8 t : Int) (h : ∀ k, k < 9 → absF ([m0, m1, m2, m3, m4, m5, m6, m7, m8].getD k 0) ≤ 1099511627776) : chkF [m0, m1, m2, m3, m4, m5, m6, m7, m8] t = if 562949953421312 < t then 2 else 0 := by
  have e : [m0, m1, m2, m3, m4, m5, m6, m7, m8].any (fun m => decide (1099511627776 < absF m)) = false := by
    rw [List.any_eq_false]
    intro x hx
    have hh : ∀ k, k < 9 → ¬ (1099511627776 < absF ([m0, m1, m2, m3, m4, m5, m6, m7, m8].getD k 0)) := fun k hk => by have := h k hk; omega
    simp only [List.mem_cons, List.not_mem_nil, or_false] at hx
    rcases hx with rfl | rfl | rfl | rfl | rfl | rfl | rfl | rfl | rfl
    · simpa using hh 0 (by omega)
    · simpa using hh 1 (by omega)
    · simpa using hh 2 (by omega)
    · simpa using hh 3 (by omega)
    · simpa using hh 4 (by omega)
    · simpa using hh 5 (by omega)
    · simpa using hh 6 (by omega)
    · simpa using hh 7 (by omega)
    · simpa using hh 8 (by omega)
  unfold chkF
  rw [e]
  simp

theorem index9 (m0 m1 m2 m3 m4 m5 m6 m7 m8 : Int) (k : Nat) (hk : k < 9) (w : World) : (Instr.index 78 (.agg #[.int .i64 m0, .int .i64 m1, .int .i64 m2, .int .i64 m3, .int .i64 m4, .int .i64 m5, .int .i64 m6, .int .i64 m7, .int .i64 m8]) (.int .i64 k)).run Try.prog w = .ok (.int .i64 ([m0, m1, m2, m3, m4, m5, m6, m7, m8].getD k 0)) w := match k, hk with
  | 0, _ => by kernel_rfl
  | 1, _ => by kernel_rfl
  | 2, _ => by kernel_rfl
  | 3, _ => by kernel_rfl
  | 4, _ => by kernel_rfl
  | 5, _ => by kernel_rfl
  | 6, _ => by kernel_rfl
  | 7, _ => by kernel_rfl
  | 8, _ => by kernel_rfl
theorem abs_big (x : Int) (h : in64 x) : 1099511627776 < absF x ↔ 1099511627776 < x ∨ x < -1099511627776 := by
  unfold in64 at h
  unfold absF sat
  split <;> omega

set_option maxHeartbeats 4000000 in
theorem Check_any (m0 m1 m2 m3 m4 m5 m6 m7 m8 tx ty tz : Int) (h0 : in64 m0) (h1 : in64 m1) (h2 : in64 m2) (h3 : in64 m3) (h4 : in64 m4) (h5 : in64 m5) (h6 : in64 m6) (h7 : in64 m7) (h8 : in64 m8) (h9 : in64 tx) (h10 : in64 ty) (h11 : in64 tz) (w : World) : Calls Try.prog 95 #[(.agg #[.int .i64 m0, .int .i64 m1, .int .i64 m2, .int .i64 m3, .int .i64 m4, .int .i64 m5, .int .i64 m6, .int .i64 m7, .int .i64 m8, .int .i64 tx, .int .i64 ty, .int .i64 tz])] w fun e w' => e = .returned (.int .i64 (chkF [m0, m1, m2, m3, m4, m5, m6, m7, m8] (mostF tx ty tz))) ∧ Below w.heap.size w w' := by
  have ab : Hid (∀ k, k < 9 → ∀ w, Calls Try.prog 100 #[.int .i64 ([m0, m1, m2, m3, m4, m5, m6, m7, m8].getD k 0)] w fun e w' => e = .returned (.int .i64 (absF ([m0, m1, m2, m3, m4, m5, m6, m7, m8].getD k 0))) ∧ w = w') := Lib.hid (fun (k : Nat) (hk : k < 9) (w : World) => FAbs_any ([m0, m1, m2, m3, m4, m5, m6, m7, m8].getD k 0) (in9 m0 m1 m2 m3 m4 m5 m6 m7 m8 h0 h1 h2 h3 h4 h5 h6 h7 h8 k hk).1 (in9 m0 m1 m2 m3 m4 m5 m6 m7 m8 h0 h1 h2 h3 h4 h5 h6 h7 h8 k hk).2 w)
  have IN := Lib.hid (in9 m0 m1 m2 m3 m4 m5 m6 m7 m8 h0 h1 h2 h3 h4 h5 h6 h7 h8)
  have cy := Lib.hid (fun k hk h => chk_yes m0 m1 m2 m3 m4 m5 m6 m7 m8 (mostF tx ty tz) k hk h)
  have cn := Lib.hid (fun h => chk_no m0 m1 m2 m3 m4 m5 m6 m7 m8 (mostF tx ty tz) h)
  have mo := Lib.hid (VMost_any tx ty tz h9 h10 h11)
  have ix := Lib.hid (index9 m0 m1 m2 m3 m4 m5 m6 m7 m8)
  clear h0 h1 h2 h3 h4 h5 h6 h7 h8 h9 h10 h11
  go_enter Try.func95, Try.ntmps95
  go_upto_region 1 with fail
  obtain ⟨W0, hW⟩ : ∃ W0, W0 = (w.alloc (.cells #[.int .i64 m0, .int .i64 m1, .int .i64 m2, .int .i64 m3, .int .i64 m4, .int .i64 m5, .int .i64 m6, .int .i64 m7, .int .i64 m8, .int .i64 tx, .int .i64 ty, .int .i64 tz] 80)) := ⟨_, rfl⟩
  have hB0 : Below w.heap.size w W0 := hW ▸ (Below.al (Below.refl _ _))
  have HA : Hid (Own w.heap.size [.int .i64 m0, .int .i64 m1, .int .i64 m2, .int .i64 m3, .int .i64 m4, .int .i64 m5, .int .i64 m6, .int .i64 m7, .int .i64 m8, .int .i64 tx, .int .i64 ty, .int .i64 tz] W0) := Lib.hid (hW ▸ (Own.newAt (by simp)))
  rw [← hW]
  clear hW
  obtain ⟨A, eA⟩ : ∃ X, X = w.heap.size := ⟨_, rfl⟩
  rw [← eA] at HA ⊢
  have Aw : w.heap.size ≤ A := by omega
  clear eA
  have oA := HA.out
  have A0 := oA.at 0 _ rfl
  have A1 := oA.at 1 _ rfl
  have A2 := oA.at 2 _ rfl
  have A3 := oA.at 3 _ rfl
  have A4 := oA.at 4 _ rfl
  have A5 := oA.at 5 _ rfl
  have A6 := oA.at 6 _ rfl
  have A7 := oA.at 7 _ rfl
  have A8 := oA.at 8 _ rfl
  have A9 := oA.at 9 _ rfl
  have A10 := oA.at 10 _ rfl
  have A11 := oA.at 11 _ rfl
  have Al := oA.lt
  clear oA
  go_wp2_with (fail)
  go_loop [4, 7] (fun _ i => ∃ (k : Nat), k ≤ 9 ∧ i = .int .i64 k ∧ Hid (∀ j, j < k → absF ([m0, m1, m2, m3, m4, m5, m6, m7, m8].getD j 0) ≤ 1099511627776)) (fun _ i => (9 - (intOf i).toNat))
  case atStart => exact ⟨0, by omega, rfl, Lib.hid fun j hj => absurd hj (by omega)⟩
  case round =>
    obtain ⟨k, hk, rfl, hp⟩ := hrel
    by_cases hlt : k < 9
    · have hx := ix.out k hlt
      have abk := Lib.hid (ab.out k hlt)
      have cyk := Lib.hid (cy.out k hlt)
      have nx : Hid (absF ([m0, m1, m2, m3, m4, m5, m6, m7, m8].getD k 0) ≤ 1099511627776 → ∀ j, j < k + 1 → absF ([m0, m1, m2, m3, m4, m5, m6, m7, m8].getD j 0) ≤ 1099511627776) := Lib.hid fun h j hj => by
        by_cases e : j < k
        · exact hp.out j e
        · obtain rfl : j = k := by omega
          exact h
      clear ab cy cn hp ix IN
      generalize [m0, m1, m2, m3, m4, m5, m6, m7, m8].getD k 0 = x at hx abk cyk nx
      by_cases hb : 1099511627776 < absF x
      · have HV := Lib.hid (cyk.out hb)
        have hb' : decide (1099511627776 < absF x) = true := by simpa using hb
        clear hb cyk nx
        go_wp2_with (go_at_call 100; refine (abk.out _).mono ?_; rintro e w1 ⟨rfl, rfl⟩)
        go_ret
        exact ⟨by rw [HV.out]; rfl, hB0⟩
      · have nx' := Lib.hid (nx.out (by omega))
        have hb' : decide (1099511627776 < absF x) = false := by simpa using hb
        clear hb cyk nx
        go_wp2_with (go_at_call 100; refine (abk.out _).mono ?_; rintro e w1 ⟨rfl, rfl⟩)
        go_round
        case rel => exact ⟨k + 1, by omega, by go_num, nx'⟩
        case measure => simp [intOf]; omega
    · obtain rfl : k = 9 := by omega
      have HV := cn.out hp.out
      clear cy cn hp hlt hk IN
      by_cases hb : 562949953421312 < mostF tx ty tz
      · rw [if_pos hb] at HV
        have HV := Lib.hid HV
        have hb' : decide (562949953421312 < mostF tx ty tz) = true := by simpa using hb
        clear hb
        go_wp2_with (go_at_call 69; refine (mo.out _).mono ?_; rintro e w1 ⟨rfl, hb⟩)
        go_ret
        exact ⟨by rw [HV.out]; rfl, Below.go hB0 hb⟩
      · rw [if_neg hb] at HV
        have HV := Lib.hid HV
        have hb' : decide (562949953421312 < mostF tx ty tz) = false := by simpa using hb
        clear hb
        go_wp2_with (go_at_call 69; refine (mo.out _).mono ?_; rintro e w1 ⟨rfl, hb⟩)
        go_ret
        exact ⟨by rw [HV.out]; rfl, Below.go hB0 hb⟩

end Go.Proofs.Ytgggngcgcpmkbaa
