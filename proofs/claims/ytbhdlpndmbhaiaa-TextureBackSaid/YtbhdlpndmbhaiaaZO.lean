/- texture: the walk of TextureBack. -/
import Derived.Test.YtbhdlpndmbhaiaaMUD
import Derived.Test.YtbhdlpndmbhaiaaCT
import Derived.Lib.Hide
import Derived.LoopN
import Derived.LoopTactic
import Derived.Deep.Onto
import Derived.Deep.RegionHeld3
import Derived.Deep.QuietTactic
import Derived.BigQuiet
namespace Go.Proofs.Ytbhdlpndmbhaiaa
set_option linter.unusedVariables false
set_option maxRecDepth 2000
set_option linter.unusedSimpArgs false
open Go.RowKit
theorem encT_0 (S : Int) (f : Nat → Int) : encT S f 0 = S := rfl
theorem encT_1 (S : Int) (f : Nat → Int) (j : Nat) : encT S f (1 + j) = f j := by
  unfold encT
  rw [if_neg (by omega), show 1 + j - 1 = j by omega]
theorem valN_w1 {F : Nat → Int} {N t : Nat} (h : t + 1 ≤ N) : valN F N t 1 = F t := by
  unfold valN
  rw [if_pos h]
  exact leN_w1 _
/-- what is encoded is decoded -/
theorem enc_dec {S : Int} {n : Nat} {f : Nat → Int} (h : chkT S n f = 0) : decE (encT S f) (1 + n * 3) = 0 ∧ ∀ Z, DecO (encT S f) (1 + n * 3) Z → S = Z.S ∧ n = Z.n ∧ ∀ j, j < n * 3 → f j = Z.f j := by
  have g := tchk_good h
  obtain ⟨s, rfl, hs, hn⟩ := g.cnt
  have e1 : sdN (encT s f) (1 + n * 3) = s := by
    unfold sdN
    rw [valN_w1 (by omega), encT_0]
    rfl
  have en : needT (encT s f) (1 + n * 3) = 1 + n * 3 := by unfold needT; rw [e1, ← hn]
  have ez : decE (encT s f) (1 + n * 3) = 0 := by
    rw [dec_c en.symm, e1, ← hn]
    refine Eq.trans (tchk_congr fun j hj => ?_) h
    exact encT_1 _ _ _
  refine ⟨ez, fun Z hZ => ?_⟩
  have ed : dcS (encT s f) (1 + n * 3) = s := by unfold dcS; rw [if_pos ez, e1]
  refine ⟨by rw [hZ.S, ed], by rw [hZ.n, ed, ← hn], fun j hj => ?_⟩
  rw [hZ.f j (by rw [hZ.n, ed, ← hn]; exact hj), encT_1]
theorem enc_in {S : Int} {n : Nat} {f : Nat → Int} (h : chkT S n f = 0) : ∀ j, j < 1 + n * 3 → inB (encT S f j) := by
  have g := tchk_good h
  intro j hj
  unfold encT inB
  split
  · rcases g.s with e | e | e | e | e <;> omega
  · have := g.v (j - 1) (by omega)
    omega
/-- what is decoded is encoded -/
theorem dec_enc {F : Nat → Int} {N : Nat} {Z : Txr} (h : decE F N = 0) (hF : ∀ j, j < N → inB (F j)) (hZ : DecO F N Z) : chkT Z.S Z.n Z.f = 0 ∧ 1 + Z.n * 3 = N ∧ ∀ j, j < N → encT Z.S Z.f j = F j := by
  have ed : dcS F N = sdN F N := by unfold dcS; rw [if_pos h]
  have eN : N = needT F N := by
    rcases Nat.lt_trichotomy N (needT F N) with h1 | h1 | h1
    · rw [dec_4 h1] at h; omega
    · exact h1
    · rw [dec_5 h1] at h; omega
  have eS := hZ.S; have en := hZ.n
  rw [ed] at eS en
  have eN2 : N = 1 + Z.n * 3 := by rw [en]; exact eN
  have h2 := h
  rw [dec_c eN, ← en, ← eS] at h2
  refine ⟨Eq.trans (tchk_congr hZ.f) h2, eN2.symm, fun j hj => ?_⟩
  unfold encT
  split
  · rename_i h0
    subst h0
    rw [eS, ← (sdN_val hF).1, valN_w1 (by omega)]
  · rw [hZ.f _ (by omega), show 1 + (j - 1) = j by omega]
theorem byt_cong {w : World} {q : Option Addr} {n : Nat} {f g : Nat → Int} (h : Byt w q n f) (e : ∀ j, j < n → f j = g j) : Byt w q n g := by
  rcases h with h | ⟨b, off, h1, h2⟩
  · exact .inl h
  · exact .inr ⟨b, off, h1, by rw [← nums_congr .u8 e]; exact h2⟩
theorem dec_bad {F : Nat → Int} {N : Nat} {Z : Txr} (h : decE F N ≠ 0) (hZ : DecO F N Z) : Z.S = 0 ∧ Z.n = 0 := by
  have ed : dcS F N = 0 := if_neg h
  rw [hZ.S, hZ.n, ed]
  exact ⟨rfl, rfl⟩
attribute [local go_sem ↓ high] sliced_head
set_option maxHeartbeats 16000000 in
theorem Back_law (M : Txr) (F : Nat → Int) (q : Option Addr) (n c : Nat) (hF : ∀ j, j < n → inB (F j)) (hnc : n ≤ c) (hcx : c ≤ 9223372036854775807) (w : World) (hM : TxAt M w) (hq : Byt w q n F) :
    Calls Try.prog 6 #[.agg #[.int .i64 M.S, .slice M.q M.n M.c], .slice q n c] w fun e w' => e = .returned (.bool true) ∧ Below w.heap.size w w' := by
  obtain ⟨N, eN⟩ : ∃ N, min n 800 = N := ⟨_, rfl⟩
  have e1 : min (n : Int) 800 = (N : Int) := by omega
  have l1 : (N : Int) ≤ (c : Int) := by omega
  have l0 : (0 : Int) ≤ (N : Int) := by omega
  have HQ := Lib.hid (byt_take_ hq (show N ≤ n by omega))
  have HFN : Hid (∀ j, j < N → inB (F j)) := Lib.hid fun j hj => hF j (by omega)
  have D1 := Lib.hid (fun w hq => Decode_any q N c F (fun j hj => hF j (by omega)) (by omega) w hq)
  have NL := Lib.hid (show N ≤ 800 by omega)
  have HM := Lib.hid hM
  clear hF hnc hcx hq eN hM
  go_enter Try.func6, Try.ntmps6
  go_upto_region 1 with fail
  obtain ⟨W0, hW⟩ : ∃ W0, W0 = (w.alloc (.cells #[.int .i64 M.S, .slice M.q M.n M.c] 24)) := ⟨_, rfl⟩
  have hB0 : Below w.heap.size w W0 := hW ▸ (Below.al (Below.refl _ _))
  have HA : Hid (Own w.heap.size [.int .i64 M.S, .slice M.q M.n M.c] W0) := Lib.hid (hW ▸ (Own.newAt (by simp)))
  rw [← hW]
  clear hW
  obtain ⟨A, eA⟩ : ∃ X, X = w.heap.size := ⟨_, rfl⟩
  rw [← eA] at HA ⊢
  have AW := Lib.hid (show w.heap.size ≤ A by omega)
  clear eA
  have HQ0 := Lib.hid (HQ.out.later hB0); have HM0 := Lib.hid (HM.out.later hB0); have HB0 := Lib.hid hB0; have HQw := HQ
  have HY := Lib.hid (fewT_at HM.out)
  clear hB0 HQ HM
  refine wp_region_held_drew (S := fun _ => True) (by kernel_rfl) trivial (fun _ => ?_)
  have HA1 := Lib.hid HA.out.drew; have HQ1 := Lib.hid (HQ0.out.later (Below.refl _ _).drew); have HM1 := Lib.hid (HM0.out.later (Below.refl _ _).drew); have HB1 := Lib.hid (Below.go HB0.out (Below.refl _ _).drew)
  clear HA HQ0 HM0 HB0
  generalize W0.drew = z0 at *
  refine wpAnyH_take (i := 2) (v := (.slice q n c)) rfl (by kernel_rfl) (by kernel_rfl) (by kernel_rfl) (fun _ _ _ h => h) (Or.inl ⟨by rfl, fun w _ => ?_⟩) trivial ?_
  · go_simp
  try simp only [Act.put, List.getElem_toArray, List.getElem_cons_zero, List.getElem_cons_succ, List.setIfInBounds_toArray, List.set_cons_zero, List.set_cons_succ]
  refine wpAnyH_take (i := 3) (v := (.slice q n c)) rfl (by kernel_rfl) (by kernel_rfl) (by kernel_rfl) (fun _ _ _ h => h) (Or.inl ⟨by rfl, fun w _ => ?_⟩) trivial ?_
  · go_simp
  try simp only [Act.put, List.getElem_toArray, List.getElem_cons_zero, List.getElem_cons_succ, List.setIfInBounds_toArray, List.set_cons_zero, List.set_cons_succ]
  refine wpAnyH_take (i := 4) (v := .int .i64 (n : Int)) rfl (by kernel_rfl) (by kernel_rfl) (by kernel_rfl) (fun _ _ _ h => h) (Or.inl ⟨by rfl, fun w _ => ?_⟩) trivial ?_
  · go_simp
  try simp only [Act.put, List.getElem_toArray, List.getElem_cons_zero, List.getElem_cons_succ, List.setIfInBounds_toArray, List.set_cons_zero, List.set_cons_succ]
  refine wpAnyH_take (i := 5) (v := .int .i64 (N : Int)) rfl (by kernel_rfl) (by kernel_rfl) (by kernel_rfl) (fun _ _ _ h => h) (Or.inl ⟨by rfl, fun w _ => ?_⟩) trivial ?_
  · go_simp
  try simp only [Act.put, List.getElem_toArray, List.getElem_cons_zero, List.getElem_cons_succ, List.setIfInBounds_toArray, List.set_cons_zero, List.set_cons_succ]
  refine wpAnyH_take (i := 6) (v := (.slice q N c)) rfl (by kernel_rfl) (by kernel_rfl) (by kernel_rfl) (fun _ _ _ h => h) (Or.inl ⟨by rfl, fun w _ => ?_⟩) trivial ?_
  · go_simp
  try simp only [Act.put, List.getElem_toArray, List.getElem_cons_zero, List.getElem_cons_succ, List.setIfInBounds_toArray, List.set_cons_zero, List.set_cons_succ]
  refine wpAnyH_ready (rs := [0]) (by kernel_rfl) (by simp) ?_
  refine AllReadyH.cons rfl (fun K_ hK => ?_) AllReadyH.nil
  have A0 := HA1.out.at 0 _ rfl; have A1 := HA1.out.at 1 _ rfl; have Al := HA1.out.lt
  go_simp
  clear A0 A1 Al
  refine hK.out _ _ trivial (fun _ => ?_)
  clear hK K_
  try simp only [Act.put, List.getElem_toArray, List.getElem_cons_zero, List.getElem_cons_succ, List.setIfInBounds_toArray, List.set_cons_zero, List.set_cons_succ]
  refine wpAnyH_ready (rs := [1]) (by kernel_rfl) (by simp) ?_
  refine AllReadyH.cons rfl (fun K_ hK => ?_) AllReadyH.nil
  go_simp
  go_at_call 8
  refine (few_tex M _ HM1.out).mono ?_
  rintro e z1 ⟨rfl, hb⟩
  have HA2 := Lib.hid (HA1.out.later hb); have HQ2 := Lib.hid (HQ1.out.later hb); have HB2 := Lib.hid (Below.go HB1.out hb)
  have YN := Lib.hid (fewT_n M)
  clear hb HA1 HQ1 HM1 HB1
  generalize fewT M = Y at *
  refine hK.out _ _ trivial (fun _ => ?_)
  clear hK K_
  try simp only [Act.put, List.getElem_toArray, List.getElem_cons_zero, List.getElem_cons_succ, List.setIfInBounds_toArray, List.set_cons_zero, List.set_cons_succ]
  refine wpAnyH_ready (rs := [7]) (by kernel_rfl) (by simp) ?_
  refine AllReadyH.cons rfl (fun K_ hK => ?_) AllReadyH.nil
  have A0 := HA2.out.at 0 _ rfl; have Af0 := HA2.out.ok 0 (by simp); have A1 := HA2.out.at 1 _ rfl; have Af1 := HA2.out.ok 1 (by simp); have Al := HA2.out.lt
  go_simp
  clear A0 A1 Af0 Af1 Al
  rw [show ((z1.setCell ⟨A, 0, none⟩ (.int .i64 Y.S)).setCell ⟨A, 1, none⟩ (.slice Y.q Y.n Y.c)) = z1.setCells A 0 [.int .i64 Y.S, .slice Y.q Y.n Y.c] from rfl]
  have HA3 : Hid (Own A [.int .i64 Y.S, .slice Y.q Y.n Y.c] (z1.setCells A 0 [.int .i64 Y.S, .slice Y.q Y.n Y.c])) := Lib.hid (Own.store HA2.out rfl)
  have HB3 : Hid (Below w.heap.size w (z1.setCells A 0 [.int .i64 Y.S, .slice Y.q Y.n Y.c])) := Lib.hid (Below.setCells HB2.out AW.out _ _)
  have HQ3 := Lib.hid (HQw.out.later HB3.out)
  clear HA2 HB2 HQ2
  generalize z1.setCells A 0 [.int .i64 Y.S, .slice Y.q Y.n Y.c] = w1 at *
  refine hK.out _ _ trivial (fun _ => ?_)
  clear hK K_
  try simp only [Act.put, List.getElem_toArray, List.getElem_cons_zero, List.getElem_cons_succ, List.setIfInBounds_toArray, List.set_cons_zero, List.set_cons_succ]
  refine wpAnyH_ready (rs := [8]) (by kernel_rfl) (by simp) ?_
  refine AllReadyH.cons rfl (fun K_ hK => ?_) AllReadyH.nil
  go_simp
  refine hK.out _ _ trivial (fun _ => ?_)
  clear hK K_
  try simp only [Act.put, List.getElem_toArray, List.getElem_cons_zero, List.getElem_cons_succ, List.setIfInBounds_toArray, List.set_cons_zero, List.set_cons_succ]
  refine wpAnyH_done (by kernel_rfl) ?_ _
  have CE := Lib.hid (Encode_any Y)
  have A0 := HA3.out.at 0 _ rfl; have A1 := HA3.out.at 1 _ rfl; have Al := HA3.out.lt
  go_wp2_with (fail)
  go_at_call 9
  refine (CE.out _ (HY.out.later HB3.out)).mono ?_
  rintro e w3 ⟨⟨v1, rfl, q1, c1, rfl, _, _, hb1⟩, hb⟩
  have HA4 := Lib.hid (HA3.out.later hb); have HB4 := Lib.hid (Below.go HB3.out hb); have HQ4 := Lib.hid (HQ3.out.later hb); have BY1 := Lib.hid hb1
  clear hb hb1 A0 A1 Al HA3 HB3 HQ3 CE
  by_cases hz : chkT Y.S Y.n Y.f = 0
  · have ED := enc_dec hz
    have EI := enc_in hz
    rw [hz] at BY1 ⊢
    rw [show encTL 0 Y.n = 1 + Y.n * 3 from rfl] at BY1 ⊢
    have DE := Lib.hid (fun w hq => Decode_any q1 (1 + Y.n * 3) c1 (encT Y.S Y.f) EI (by have := YN.out; omega) w hq)
    rw [ED.1] at DE
    have EDh := Lib.hid ED.2
    clear ED EI hz
    generalize encT Y.S Y.f = EF at *
    go_wp2_with (fail)
    go_at_call 15
    refine (DE.out _ BY1.out).mono ?_
    rintro e w4 ⟨Z, rfl, ⟨hM2, hdm⟩, hb⟩
    have HA5 := Lib.hid (HA4.out.later hb); have HB5 := Lib.hid (Below.go HB4.out hb); have HQ5 := Lib.hid (HQ4.out.later hb); have HZ5 := Lib.hid hM2
    have SM := Lib.hid (EDh.out Z hdm)
    clear hb hM2 hdm HA4 HB4 HQ4 BY1 DE EDh
    go_upto_region 5 with fail
    obtain ⟨w5, hW⟩ : ∃ W, W = (w4.alloc (.cells #[.int .i64 Z.S, .slice Z.q Z.n Z.c] 24)) := ⟨_, rfl⟩
    have hBx : Below w4.heap.size w4 w5 := hW ▸ (Below.al (Below.refl _ _))
    have HE : Hid (Own w4.heap.size ([.int .i64 Z.S, .slice Z.q Z.n Z.c]) w5) := Lib.hid (hW ▸ (Own.newAt (by simp)))
    rw [← hW]
    clear hW
    obtain ⟨E, eE⟩ : ∃ X, X = w4.heap.size := ⟨_, rfl⟩
    rw [← eE] at HE ⊢
    clear eE
    have HA6 := Lib.hid (HA5.out.later hBx); have HB6 := Lib.hid (Below.go HB5.out hBx); have HQ6 := Lib.hid (HQ5.out.later hBx); have HZ6 := Lib.hid (HZ5.out.later hBx)
    clear hBx HA5 HB5 HQ5 HZ5
    have SY := Lib.hid (Same_yes Y Z _ (HY.out.later HB6.out) HZ6.out SM.out.1 SM.out.2.1 SM.out.2.2 (by have := YN.out; omega))
    have A0 := HA6.out.at 0 _ rfl; have A1 := HA6.out.at 1 _ rfl; have Al := HA6.out.lt
    have E0 := HE.out.at 0 _ rfl; have E1 := HE.out.at 1 _ rfl; have El := HE.out.lt
    go_wp2_with (fail)
    go_at_call 17
    refine SY.out.mono ?_
    rintro e w6 ⟨rfl, hb⟩
    have HB5 := Lib.hid (Below.go HB6.out hb); have HQ5 := Lib.hid (HQ6.out.later hb)
    clear hb HA6 HB6 HQ6 HZ6 HE SY SM A0 A1 Al E0 E1 El
    go_wp2_with (fail)
    go_at_call 15
    refine (D1.out _ HQ5.out).mono ?_
    rintro e v1 ⟨Z, rfl, ⟨hM2, hdm⟩, hb⟩
    have HB6 := Lib.hid (Below.go HB5.out hb); have HQ6 := Lib.hid (HQ5.out.later hb); have HZ6 := Lib.hid hM2; have DZ := Lib.hid hdm
    clear hb hM2 hdm HB5 HQ5
    go_upto_region 8 with fail
    obtain ⟨v2, hW⟩ : ∃ W, W = (v1.alloc (.cells #[.int .i64 Z.S, .slice Z.q Z.n Z.c] 24)) := ⟨_, rfl⟩
    have hBx : Below v1.heap.size v1 v2 := hW ▸ (Below.al (Below.refl _ _))
    have HE : Hid (Own v1.heap.size ([.int .i64 Z.S, .slice Z.q Z.n Z.c]) v2) := Lib.hid (hW ▸ (Own.newAt (by simp)))
    rw [← hW]
    clear hW
    obtain ⟨E, eE⟩ : ∃ X, X = v1.heap.size := ⟨_, rfl⟩
    rw [← eE] at HE ⊢
    clear eE
    have HB7 := Lib.hid (Below.go HB6.out hBx); have HQ7 := Lib.hid (HQ6.out.later hBx); have HZ7 := Lib.hid (HZ6.out.later hBx)
    clear hBx HB6 HQ6 HZ6
    have E0 := HE.out.at 0 _ rfl; have E1 := HE.out.at 1 _ rfl; have El := HE.out.lt
    by_cases hd0 : decE F N = 0
    · have DB := dec_enc hd0 HFN.out DZ.out
      have DBh := Lib.hid DB
      have CZ := Lib.hid (Encode_any Z)
      rw [DB.1, show encTL 0 Z.n = 1 + Z.n * 3 from rfl, DB.2.1] at CZ
      rw [hd0]
      clear DB hd0
      go_wp2_with (fail)
      go_at_call 9
      refine (CZ.out _ HZ7.out).mono ?_
      rintro e v3 ⟨⟨v0, rfl, q3, c3, rfl, _, _, hb3⟩, hb⟩
      have BZ := Lib.hid (byt_cong hb3 DBh.out.2.2); have HB8 := Lib.hid (Below.go HB7.out hb); have HQ8 := Lib.hid (HQ7.out.later hb)
      clear hb hb3 E0 E1 El HE CZ
      go_wp2_with (fail)
      go_at_call 13
      refine (Equal_any q q3 N c c3 F _ HQ8.out BZ.out).mono ?_
      rintro e v4 ⟨rfl, hb⟩
      have HB9 := Lib.hid (Below.go HB8.out hb)
      clear hb HB8 HQ8 BZ
      go_wp2_with (fail)
      go_at_call 14
      refine (works_any v4).mono ?_
      rintro e v5 ⟨rfl, hb⟩
      have HB10 := Lib.hid (Below.go HB9.out hb)
      clear hb HB9
      go_wp2_with (fail)
      go_ret
      exact ⟨rfl, HB10.out⟩
    · have DB := dec_bad hd0 DZ.out
      have hd : (decE F N != 0) = true := by simpa using hd0
      rw [DB.1] at E0
      rw [DB.2] at E1
      generalize decE F N = z at *
      clear DB
      go_wp2_with (fail)
      go_at_call 14
      refine (works_any v2).mono ?_
      rintro e v5 ⟨rfl, hb⟩
      have HB10 := Lib.hid (Below.go HB7.out hb)
      clear hb HB7
      go_wp2_with (fail)
      go_ret
      exact ⟨rfl, HB10.out⟩
  · have hd : (chkT Y.S Y.n Y.f == 0) = false := by simpa using hz
    have HB5 := HB4; have HQ5 := HQ4
    clear HB4 HQ4 BY1 HA4
    generalize chkT Y.S Y.n Y.f = zz at *
    go_wp2_with (fail)
    go_at_call 15
    refine (D1.out _ HQ5.out).mono ?_
    rintro e v1 ⟨Z, rfl, ⟨hM2, hdm⟩, hb⟩
    have HB6 := Lib.hid (Below.go HB5.out hb); have HQ6 := Lib.hid (HQ5.out.later hb); have HZ6 := Lib.hid hM2; have DZ := Lib.hid hdm
    clear hb hM2 hdm HB5 HQ5
    go_upto_region 8 with fail
    obtain ⟨v2, hW⟩ : ∃ W, W = (v1.alloc (.cells #[.int .i64 Z.S, .slice Z.q Z.n Z.c] 24)) := ⟨_, rfl⟩
    have hBx : Below v1.heap.size v1 v2 := hW ▸ (Below.al (Below.refl _ _))
    have HE : Hid (Own v1.heap.size ([.int .i64 Z.S, .slice Z.q Z.n Z.c]) v2) := Lib.hid (hW ▸ (Own.newAt (by simp)))
    rw [← hW]
    clear hW
    obtain ⟨E, eE⟩ : ∃ X, X = v1.heap.size := ⟨_, rfl⟩
    rw [← eE] at HE ⊢
    clear eE
    have HB7 := Lib.hid (Below.go HB6.out hBx); have HQ7 := Lib.hid (HQ6.out.later hBx); have HZ7 := Lib.hid (HZ6.out.later hBx)
    clear hBx HB6 HQ6 HZ6
    have E0 := HE.out.at 0 _ rfl; have E1 := HE.out.at 1 _ rfl; have El := HE.out.lt
    by_cases hd0 : decE F N = 0
    · have DB := dec_enc hd0 HFN.out DZ.out
      have DBh := Lib.hid DB
      have CZ := Lib.hid (Encode_any Z)
      rw [DB.1, show encTL 0 Z.n = 1 + Z.n * 3 from rfl, DB.2.1] at CZ
      rw [hd0]
      clear DB hd0
      go_wp2_with (fail)
      go_at_call 9
      refine (CZ.out _ HZ7.out).mono ?_
      rintro e v3 ⟨⟨v0, rfl, q3, c3, rfl, _, _, hb3⟩, hb⟩
      have BZ := Lib.hid (byt_cong hb3 DBh.out.2.2); have HB8 := Lib.hid (Below.go HB7.out hb); have HQ8 := Lib.hid (HQ7.out.later hb)
      clear hb hb3 E0 E1 El HE CZ
      go_wp2_with (fail)
      go_at_call 13
      refine (Equal_any q q3 N c c3 F _ HQ8.out BZ.out).mono ?_
      rintro e v4 ⟨rfl, hb⟩
      have HB9 := Lib.hid (Below.go HB8.out hb)
      clear hb HB8 HQ8 BZ
      go_wp2_with (fail)
      go_at_call 14
      refine (works_any v4).mono ?_
      rintro e v5 ⟨rfl, hb⟩
      have HB10 := Lib.hid (Below.go HB9.out hb)
      clear hb HB9
      go_wp2_with (fail)
      go_ret
      exact ⟨rfl, HB10.out⟩
    · have DB := dec_bad hd0 DZ.out
      have hd : (decE F N != 0) = true := by simpa using hd0
      rw [DB.1] at E0
      rw [DB.2] at E1
      generalize decE F N = z at *
      clear DB
      go_wp2_with (fail)
      go_at_call 14
      refine (works_any v2).mono ?_
      rintro e v5 ⟨rfl, hb⟩
      have HB10 := Lib.hid (Below.go HB7.out hb)
      clear hb HB7
      go_wp2_with (fail)
      go_ret
      exact ⟨rfl, HB10.out⟩
end Go.Proofs.Ytbhdlpndmbhaiaa
