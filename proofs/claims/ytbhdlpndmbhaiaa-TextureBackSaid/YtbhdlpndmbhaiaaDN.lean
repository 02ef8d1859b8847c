/- codec: the document's Reader: Take. -/
import Derived.Test.YtbhdlpndmbhaiaaDM
import Derived.Lib.Hide
import Derived.Deep.Onto
import Derived.Deep.QuietTactic
import Derived.BigQuiet
namespace Go.Proofs.Ytbhdlpndmbhaiaa
set_option linter.unusedVariables false
set_option maxRecDepth 2000
set_option linter.unusedSimpArgs false
open Go.RowKit
attribute [local go_sem] nums_length
attribute [local go_sem ↓ high] sliced_head sliced_one
/-- the document's Reader of N bytes F, of which at_ were read -/
structure RRd (w : World) (S D : Nat) (F : Nat → Int) (N at_ : Nat) (er : Int) : Prop where
  ex : ∃ p c, Own S [.slice p N c, .int .i64 at_, .int .i64 er] w ∧ BytD w p N F S D ∧ N ≤ c ∧ c ≤ 9223372036854775807
  le : at_ ≤ N
theorem RRd.lt {w : World} {S D : Nat} {F : Nat → Int} {N at_ : Nat} {er : Int} (h : RRd w S D F N at_ er) : S < w.heap.size := by
  obtain ⟨p, c, h1, _⟩ := h.ex
  exact h1.lt
theorem RRd.later {w w' : World} {S D : Nat} {F : Nat → Int} {N at_ : Nat} {er : Int} (h : RRd w S D F N at_ er) (hb : Below w.heap.size w w') : RRd w' S D F N at_ er := by
  obtain ⟨p, c, h1, h2, h3, h4⟩ := h.ex
  exact ⟨⟨p, c, h1.later hb, h2.later hb, h3, h4⟩, h.le⟩
theorem RRd.far {w w' : World} {S D K : Nat} {F : Nat → Int} {N at_ : Nat} {er : Int} (h : RRd w S D F N at_ er) (hb : But K w w') (hS : S ≠ K) (hD : D ≠ K) : RRd w' S D F N at_ er := by
  obtain ⟨p, c, h1, h2, h3, h4⟩ := h.ex
  exact ⟨⟨p, c, h1.but hb hS, h2.far hb hD, h3, h4⟩, h.le⟩

set_option maxHeartbeats 8000000 in
theorem RTake_any {S D N at_ : Nat} {er : Int} {F : Nat → Int} {w : World} (x : Int) (hx : x ≤ 9223372036854775807) (h : RRd w S D F N at_ er) :
    Calls Try.prog 50 #[.pointer (some ⟨S, 0, none⟩), .int .i64 x] w fun e w' => ∃ p' c', e = .returned (.slice p' (nxL x (nxE N at_ er x 0 9223372036854775807)) c') ∧ nxL x (nxE N at_ er x 0 9223372036854775807) ≤ c' ∧ c' ≤ 9223372036854775807 ∧ Byt w' p' (nxL x (nxE N at_ er x 0 9223372036854775807)) (fun j => F (at_ + j)) ∧ RRd w' S D F N (nxA at_ x (nxE N at_ er x 0 9223372036854775807)) (nxE N at_ er x 0 9223372036854775807) ∧ But S w w' := by
  obtain ⟨p, c, hS, hby, hlc, hcm⟩ := h.ex
  have hle := h.le
  clear h
  have HS := Lib.hid hS
  have BU := Lib.hid (But.refl S w)
  have s0 := HS.out.at 0 _ rfl; have s1 := HS.out.at 1 _ rfl; have s2 := HS.out.at 2 _ rfl
  have f1 := HS.out.ok 1 (by simp); have f2 := HS.out.ok 2 (by simp); have Sl := HS.out.lt
  have w1 : IntKind.i64.wrap ((N : Int) - (at_ : Int)) = (N : Int) - (at_ : Int) := IntWalk.i64_in _ (by omega)
  clear hS
  by_cases h0 : er = 0
  · subst h0
    by_cases h1 : x < 0
    · have E : nxE N at_ 0 x 0 9223372036854775807 = 2 := by simp [nxE, h1]
      have A : nxA at_ x 2 = at_ := by simp [nxA]
      have B : nxL x 2 = 0 := by simp [nxL]
      rw [E, A, B]
      clear E A B
      go_enter Try.func50, Try.ntmps50
      go_upto_region 3 with fail
      obtain ⟨w2, e3⟩ : ∃ x, x = w.setCell ⟨S, 2, none⟩ (.int .i64 2) := ⟨_, rfl⟩
      have HS2 := Lib.hid (show Own S [.slice p N c, .int .i64 at_, .int .i64 2] w2 from e3 ▸ (show Own S [.slice p N c, .int .i64 at_, .int .i64 2] (w.setCells S 2 [.int .i64 2]) from Own.part (o := 2) (vs := [.int .i64 2]) HS.out (by simp)))
      have BU2 := Lib.hid (BU.out.trans (show But S w w2 from e3 ▸ (show But S w (w.setCells S 2 [.int .i64 2]) from But.store)))
      rw [← e3]
      clear e3 HS s0 s1 s2 f1 f2 Sl BU
      have s0 := HS2.out.at 0 _ rfl; have s1 := HS2.out.at 1 _ rfl; have s2 := HS2.out.at 2 _ rfl
      have f1 := HS2.out.ok 1 (by simp); have f2 := HS2.out.ok 2 (by simp); have Sl := HS2.out.lt
      go_quiet (fail)
      obtain ⟨w3, e3⟩ : ∃ x, x = World.drewN w2 nq := ⟨_, rfl⟩
      have hBd : Below w2.heap.size w2 w3 := e3 ▸ below_drewN (Below.refl _ _) _
      rw [← e3]
      have HS3 := Lib.hid (HS2.out.later hBd)
      have BU3 := Lib.hid (BU2.out.trans (But.of hBd HS2.out.lt))
      clear e3 hBd HS2 s0 s1 s2 f1 f2 Sl BU2
      have s0 := HS3.out.at 0 _ rfl; have s1 := HS3.out.at 1 _ rfl; have s2 := HS3.out.at 2 _ rfl
      have f1 := HS3.out.ok 1 (by simp); have f2 := HS3.out.ok 2 (by simp); have Sl := HS3.out.lt
      go_wp2_with (fail)
      go_ret
      exact ⟨none, 0, rfl, Nat.le_refl _, by decide, .inl rfl, ⟨⟨p, c, HS3.out, hby.but BU3.out, hlc, hcm⟩, hle⟩, BU3.out⟩
    · obtain ⟨X, rfl⟩ : ∃ X : Nat, x = (X : Int) := ⟨x.toNat, by omega⟩
      by_cases h3 : N - at_ < X
      · have h3i : (N : Int) - (at_ : Int) < (X : Int) := by omega
        have E : nxE N at_ 0 (X : Int) 0 9223372036854775807 = 4 := by
          unfold nxE
          rw [if_neg (by simp), if_neg (by omega), if_pos (by omega)]
        have A : nxA at_ (X : Int) 4 = at_ := by simp [nxA]
        have B : nxL (X : Int) 4 = 0 := by simp [nxL]
        rw [E, A, B]
        clear E A B h3
        go_enter Try.func50, Try.ntmps50
        go_upto_region 3 with fail
        go_quiet (fail)
        obtain ⟨w3, e3⟩ : ∃ x, x = World.drewN w nq := ⟨_, rfl⟩
        have hBd : Below w.heap.size w w3 := e3 ▸ below_drewN (Below.refl _ _) _
        rw [← e3]
        have HS3 := Lib.hid (HS.out.later hBd)
        have BU3 := Lib.hid (BU.out.trans (But.of hBd HS.out.lt))
        clear e3 hBd HS s0 s1 s2 f1 f2 Sl BU
        have s0 := HS3.out.at 0 _ rfl; have s1 := HS3.out.at 1 _ rfl; have s2 := HS3.out.at 2 _ rfl
        have f1 := HS3.out.ok 1 (by simp); have f2 := HS3.out.ok 2 (by simp); have Sl := HS3.out.lt
        have O1 := Lib.hid (show Own S [.slice p N c, .int .i64 at_, .int .i64 4] (w3.setCell ⟨S, 2, none⟩ (.int .i64 4)) from Own.part (o := 2) (vs := [.int .i64 4]) HS3.out (by simp))
        have B1 := Lib.hid (BU3.out.trans (show But S w3 (w3.setCell ⟨S, 2, none⟩ (.int .i64 4)) from But.store (o := 2) (vs := [.int .i64 4])))
        go_wp2_with (fail)
        go_ret
        first
        | exact ⟨none, 0, rfl, Nat.le_refl _, by decide, .inl rfl, ⟨⟨p, c, O1.out, hby.but B1.out, hlc, hcm⟩, hle⟩, B1.out⟩
        | exact ⟨none, 0, rfl, by decide, .inl rfl, ⟨⟨p, c, O1.out, hby.but B1.out, hlc, hcm⟩, hle⟩, B1.out⟩
      · have E : nxE N at_ 0 (X : Int) 0 9223372036854775807 = 0 := by
          unfold nxE
          rw [if_neg (by simp), if_neg (by omega), if_neg (by omega)]
        have A : nxA at_ (X : Int) 0 = at_ + X := by simp [nxA]
        have B : nxL (X : Int) 0 = X := by simp [nxL]
        rw [E, A, B]
        clear E A B
        obtain ⟨T, eT⟩ : ∃ T, at_ + X = T := ⟨_, rfl⟩
        have hTN : T ≤ N := by omega
        have hge : ¬((N : Int) - (at_ : Int) < (X : Int)) := by omega
        have w5 : IntKind.i64.wrap ((at_ : Int) + (X : Int)) = (T : Int) := by rw [IntWalk.i64_in _ (by omega)]; omega
        have w6 : IntKind.i64.wrap ((T : Int) - (X : Int)) = (at_ : Int) := by rw [IntWalk.i64_in _ (by omega)]; omega
        have a0 : (0 : Int) ≤ (at_ : Int) := by omega
        have a1 : (at_ : Int) ≤ (T : Int) := by omega
        have a2 : (T : Int) ≤ (c : Int) := by omega
        have a3 : T - at_ = X := by omega
        have HT := Lib.hid hTN; have ET := Lib.hid eT
        clear h3 eT hTN
        go_enter Try.func50, Try.ntmps50
        go_upto_region 3 with fail
        go_quiet (fail)
        obtain ⟨w3, e3⟩ : ∃ x, x = World.drewN w nq := ⟨_, rfl⟩
        have hBd : Below w.heap.size w w3 := e3 ▸ below_drewN (Below.refl _ _) _
        rw [← e3]
        have HS3 := Lib.hid (HS.out.later hBd)
        have BU3 := Lib.hid (BU.out.trans (But.of hBd HS.out.lt))
        clear e3 hBd HS s0 s1 s2 f1 f2 Sl BU
        have s0 := HS3.out.at 0 _ rfl; have s1 := HS3.out.at 1 _ rfl; have s2 := HS3.out.at 2 _ rfl
        have f1 := HS3.out.ok 1 (by simp); have f2 := HS3.out.ok 2 (by simp); have Sl := HS3.out.lt
        go_upto_region 8 with fail
        obtain ⟨w4, e3⟩ : ∃ x, x = w3.setCell ⟨S, 1, none⟩ (.int .i64 T) := ⟨_, rfl⟩
        have HS4 := Lib.hid (show Own S [.slice p N c, .int .i64 T, .int .i64 0] w4 from e3 ▸ (show Own S [.slice p N c, .int .i64 T, .int .i64 0] (w3.setCells S 1 [.int .i64 T]) from Own.part (o := 1) (vs := [.int .i64 T]) HS3.out (by simp)))
        have BU4 := Lib.hid (BU3.out.trans (show But S w3 w4 from e3 ▸ (show But S w3 (w3.setCells S 1 [.int .i64 T]) from But.store)))
        rw [← e3]
        clear e3 HS3 s0 s1 s2 f1 f2 Sl BU3
        have s0 := HS4.out.at 0 _ rfl; have s1 := HS4.out.at 1 _ rfl; have s2 := HS4.out.at 2 _ rfl
        have f1 := HS4.out.ok 1 (by simp); have f2 := HS4.out.ok 2 (by simp); have Sl := HS4.out.lt
        go_quiet (fail)
        obtain ⟨w7, e3⟩ : ∃ x, x = World.drewN w4 nq := ⟨_, rfl⟩
        have hBd : Below w4.heap.size w4 w7 := e3 ▸ below_drewN (Below.refl _ _) _
        rw [← e3]
        have HS7 := Lib.hid (HS4.out.later hBd)
        have BU7 := Lib.hid (BU4.out.trans (But.of hBd HS4.out.lt))
        clear e3 hBd HS4 s0 s1 s2 f1 f2 Sl BU4
        have BX := bytD_take (bytD_drop (hby.but BU7.out) hle hlc) (show X ≤ N - at_ by have := HT.out; have := ET.out; omega)
        obtain ⟨Q_, eQ⟩ : ∃ Q, slq p at_ c = Q := ⟨_, rfl⟩
        have eQ2 : (if c = at_ then p else Option.map (fun x => x.add at_) p) = Q_ := eQ
        rw [eQ2]
        rw [eQ] at BX
        clear eQ eQ2
        go_wp2_with (fail)
        go_ret
        refine ⟨Q_, c - at_, rfl, by have := HT.out; have := ET.out; omega, by omega, BX.byt, ⟨⟨p, c, ?_, hby.but BU7.out, hlc, hcm⟩, by have := HT.out; have := ET.out; omega⟩, BU7.out⟩
        rw [ET.out]
        exact HS7.out
  · have E : nxE N at_ er x 0 9223372036854775807 = er := by simp [nxE, h0]
    have A : nxA at_ x er = at_ := by simp [nxA, h0]
    have B : nxL x er = 0 := by simp [nxL, h0]
    rw [E, A, B]
    clear E A B
    go_enter Try.func50, Try.ntmps50
    go_upto_region 3 with fail
    go_quiet (fail)
    obtain ⟨w3, e3⟩ : ∃ x, x = World.drewN w nq := ⟨_, rfl⟩
    have hBd : Below w.heap.size w w3 := e3 ▸ below_drewN (Below.refl _ _) _
    rw [← e3]
    have HS3 := Lib.hid (HS.out.later hBd)
    have BU3 := Lib.hid (BU.out.trans (But.of hBd HS.out.lt))
    clear e3 hBd HS s0 s1 s2 f1 f2 Sl BU
    have s0 := HS3.out.at 0 _ rfl; have s1 := HS3.out.at 1 _ rfl; have s2 := HS3.out.at 2 _ rfl
    have f1 := HS3.out.ok 1 (by simp); have f2 := HS3.out.ok 2 (by simp); have Sl := HS3.out.lt
    go_wp2_with (fail)
    go_ret
    exact ⟨none, 0, rfl, Nat.le_refl _, by decide, .inl rfl, ⟨⟨p, c, HS3.out, hby.but BU3.out, hlc, hcm⟩, hle⟩, BU3.out⟩
end Go.Proofs.Ytbhdlpndmbhaiaa
