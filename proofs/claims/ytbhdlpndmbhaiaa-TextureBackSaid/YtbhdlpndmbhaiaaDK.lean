/- codec: cut. -/
import Derived.Test.YtbhdlpndmbhaiaaDJ
import Derived.Lib.Hide
import Derived.Deep.Onto
namespace Go.Proofs.Ytbhdlpndmbhaiaa
set_option linter.unusedVariables false
set_option maxRecDepth 2000
set_option linter.unusedSimpArgs false
open Go.RowKit
attribute [local go_sem] nums_length
attribute [local go_sem ↓ high] sliced_head sliced_one
set_option maxHeartbeats 8000000 in
theorem cut_any {K D N at_ : Nat} {er : Int} {F : Nat → Int} {w : World} (x lo hi : Int) (hlo : 0 ≤ lo) (h : Rd w K D F N at_ er) :
    Calls Try.prog 46 #[.pointer (some ⟨K, 0, none⟩), .int .i64 x, .int .i64 lo, .int .i64 hi] w fun e w' => ∃ p' c', e = .returned (.slice p' (nxL x (nxE N at_ er x lo hi)) c') ∧ nxL x (nxE N at_ er x lo hi) ≤ c' ∧ c' ≤ 9223372036854775807 ∧ Byt w' p' (nxL x (nxE N at_ er x lo hi)) (fun j => F (at_ + j)) ∧ Rd w' K D F N (nxA at_ x (nxE N at_ er x lo hi)) (nxE N at_ er x lo hi) ∧ But K w w' := by
  have ER := Lib.hid (Err_any h)
  obtain ⟨p, c, hK, hby, hlc, hcm⟩ := h.ex
  have RD := Lib.hid h
  clear h
  by_cases h0 : er = 0
  · subst h0
    have eL : leftN N at_ 0 = N - at_ := rfl
    rw [eL] at hK hby hlc
    have HK := Lib.hid hK
    have k0 := hK.at 0 _ rfl; have k1 := hK.at 1 _ rfl; have k2 := hK.at 2 _ rfl
    have f0 := hK.ok 0 (by simp)
    have Kl := hK.lt
    clear hK eL
    by_cases h1 : x < lo
    · have E : nxE N at_ 0 x lo hi = 2 := by simp [nxE, h1]
      rw [E]
      clear hlc hcm hby RD
      go_enter Try.func46, Try.ntmps46
      go_wp2_with (fail)
      go_at_call 47
      refine (ER.out).mono ?_
      rintro e w1 ⟨rfl, hw⟩
      obtain rfl : w = w1 := hw.symm
      go_wp2_with (fail)
      go_at_call 53
      refine (fail_any K _ _ _ 2 w HK.out).mono ?_
      rintro e w1 ⟨rfl, hO, hb⟩
      have HO := Lib.hid hO; have HB := Lib.hid hb
      clear hO hb k0 k1 k2 f0
      go_wp2_with (fail)
      go_ret
      exact ⟨none, 0, rfl, Nat.le_refl _, by decide, .inl rfl, ⟨none, 0, HO.out, .inl rfl, Nat.le_refl _, by decide⟩, HB.out⟩
    · by_cases h2 : hi < x
      · have E : nxE N at_ 0 x lo hi = 2 := by simp [nxE, h1, h2]
        rw [E]
        clear hlc hcm hby RD
        go_enter Try.func46, Try.ntmps46
        go_wp2_with (fail)
        go_at_call 47
        refine (ER.out).mono ?_
        rintro e w1 ⟨rfl, hw⟩
        obtain rfl : w = w1 := hw.symm
        go_wp2_with (fail)
        go_at_call 53
        refine (fail_any K _ _ _ 2 w HK.out).mono ?_
        rintro e w1 ⟨rfl, hO, hb⟩
        have HO := Lib.hid hO; have HB := Lib.hid hb
        clear hO hb k0 k1 k2 f0
        go_wp2_with (fail)
        go_ret
        exact ⟨none, 0, rfl, Nat.le_refl _, by decide, .inl rfl, ⟨none, 0, HO.out, .inl rfl, Nat.le_refl _, by decide⟩, HB.out⟩
      · obtain ⟨X, rfl⟩ : ∃ X : Nat, x = (X : Int) := ⟨x.toNat, by omega⟩
        by_cases h3 : N - at_ < X
        · have h3i : ((N - at_ : Nat) : Int) < (X : Int) := by omega
          have E : nxE N at_ 0 (X : Int) lo hi = 4 := by
            unfold nxE
            rw [if_neg (by simp), if_neg (by omega), if_pos h3i]
          rw [E]
          obtain ⟨L, eLL⟩ : ∃ L, N - at_ = L := ⟨_, rfl⟩
          rw [eLL] at h3i h3 k0 HK
          clear hlc hcm hby RD eLL
          go_enter Try.func46, Try.ntmps46
          go_wp2_with (fail)
          go_at_call 47
          refine (ER.out).mono ?_
          rintro e w1 ⟨rfl, hw⟩
          obtain rfl : w = w1 := hw.symm
          go_wp2_with (fail)
          go_at_call 53
          refine (fail_any K _ _ _ 4 w HK.out).mono ?_
          rintro e w1 ⟨rfl, hO, hb⟩
          have HO := Lib.hid hO; have HB := Lib.hid hb
          clear hO hb k0 k1 k2 f0
          go_wp2_with (fail)
          go_ret
          exact ⟨none, 0, rfl, Nat.le_refl _, by decide, .inl rfl, ⟨none, 0, HO.out, .inl rfl, Nat.le_refl _, by decide⟩, HB.out⟩
        · have E : nxE N at_ 0 (X : Int) lo hi = 0 := by
            unfold nxE
            rw [if_neg (by simp), if_neg (by omega), if_neg (by omega)]
          rw [E]
          have A : nxA at_ (X : Int) 0 = at_ + X := by simp [nxA]
          have B : nxL (X : Int) 0 = X := by simp [nxL]
          rw [A, B]
          have RL : leftN N (at_ + X) 0 = N - at_ - X := by simp [leftN]; omega
          obtain ⟨L, eLL⟩ : ∃ L, N - at_ = L := ⟨_, rfl⟩
          rw [eLL] at h3 k0 HK hlc hby RL
          have x0 : (0 : Int) ≤ (X : Int) := by omega
          have xl : (X : Int) ≤ (L : Int) := by omega
          have xc : (X : Int) ≤ (c : Int) := by omega
          have nl : ¬((L : Int) < (X : Int)) := by omega
          have BY := Lib.hid hby
          have O1 := Lib.hid (show Own K [.slice (slq p X c) (L - X) (c - X), .int .i64 0, .bool true] (w.setCell ⟨K, 0, none⟩ (.slice (slq p X c) (L - X) (c - X))) from Own.part (o := 0) (vs := [.slice (slq p X c) (L - X) (c - X)]) HK.out (by simp))
          have B1 := Lib.hid (show But K w (w.setCell ⟨K, 0, none⟩ (.slice (slq p X c) (L - X) (c - X))) from But.store (o := 0) (vs := [.slice (slq p X c) (L - X) (c - X)]))
          have SQ := Lib.hid (show slq p X c = if c = X then p else p.map (·.add X) from rfl)
          have RLH := Lib.hid RL; have XL := Lib.hid (show X ≤ L by omega); have LC := Lib.hid hlc; have CM := Lib.hid hcm
          clear hlc hcm hby RD eLL RL h3 A B E
          go_enter Try.func46, Try.ntmps46
          go_wp2_with (fail)
          go_at_call 47
          refine (ER.out).mono ?_
          rintro e w1 ⟨rfl, hw⟩
          obtain rfl : w = w1 := hw.symm
          go_wp2_with (fail)
          all_goals (
            first
            | (have hcx : c = X := by assumption
               have e1 : Value.slice (slq p X c) (L - X) (c - X) = .slice p (L - X) 0 := by rw [SQ.out, if_pos hcx, hcx, Nat.sub_self]
               rw [← e1])
            | (have hcx : ¬c = X := by assumption
               have e1 : Value.slice (slq p X c) (L - X) (c - X) = .slice (p.map (·.add X)) (L - X) (c - X) := by rw [SQ.out, if_neg hcx]
               rw [← e1])
            go_ret
            have BX := BY.out
            refine ⟨p, X, rfl, Nat.le_refl _, by have := CM.out; have := LC.out; have := XL.out; omega, ((bytD_take BX XL.out).but B1.out).byt, ⟨slq p X c, c - X, ?_, ?_, ?_, ?_⟩, B1.out⟩
            · rw [RLH.out]; exact O1.out
            · rw [RLH.out]
              have := (bytD_drop BX XL.out LC.out).but B1.out
              simpa only [Nat.add_assoc] using this
            · rw [RLH.out]; have := LC.out; omega
            · have := CM.out; omega)
  · have E : nxE N at_ er x lo hi = er := by simp [nxE, h0]
    have A : nxA at_ x er = at_ := by simp [nxA, h0]
    have B : nxL x er = 0 := by simp [nxL, h0]
    have en : ¬er = 0 := h0
    rw [E, A, B]
    clear hK hby hlc hcm h0
    go_enter Try.func46, Try.ntmps46
    go_wp2_with (fail)
    go_at_call 47
    refine (ER.out).mono ?_
    rintro e w1 ⟨rfl, hw⟩
    obtain rfl : w = w1 := hw.symm
    go_wp2_with (fail)
    go_ret
    exact ⟨none, 0, rfl, Nat.le_refl _, by decide, .inl rfl, RD.out, But.refl _ _⟩
end Go.Proofs.Ytbhdlpndmbhaiaa
