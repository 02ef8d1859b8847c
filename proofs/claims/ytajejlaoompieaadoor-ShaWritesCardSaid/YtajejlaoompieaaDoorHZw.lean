/- ShaWrites: the walk. -/
import Derived.Test.YtajejlaoompieaaDoorHS
import Derived.Test.YtajejlaoompieaaDoorCW
import Derived.Lib.Hide
import Derived.LoopN
import Derived.LoopTactic
import Derived.Deep.Onto
import Derived.Laws.OwnMore
import Derived.Great.BuildSlice
import Derived.Lib.SlBytesConst
namespace Go.Proofs.YtajejlaoompieaaDoor
set_option linter.unusedVariables false
set_option maxRecDepth 2000
set_option linter.unusedSimpArgs false
open Go.RowKit
/-- a list of one part that goes on where the data end -/
theorem one_partN {w : World} {L K : Nat} {q : Option Addr} {m c a b : Nat} {f g : Nat → Int} (h : Own L [.slice q m c] w) (hb : BytN w q m f K) (hKL : L ≠ K) (hab : b = a + m) (hmc : m ≤ c) (hc : c ≤ 9223372036854775807) (hg : ∀ j, j < m → g (a + j) = f j) : PartsN w (some ⟨L, 0, none⟩) 1 g (fun k => if k = 0 then a else b) K := fun k hk => by
  obtain rfl : k = 0 := by omega
  refine ⟨L, 0, q, m, c, rfl, hKL, h.lt, h.at 0 _ rfl, hmc, hc, hab, ?_⟩
  rcases hb with h0 | ⟨b, off, e1, e0, e2⟩
  · exact .inl h0
  · refine .inr ⟨b, off, e1, e0, ?_⟩
    rw [nums_congr (g := f) .u8 (fun j hj => by show g (a + j) = f j; exact hg j hj)]
    exact e2
attribute [local go_sem] nums_length zeroValueH zeroH_size zeroH_len

set_option maxHeartbeats 16000000 in
theorem Writes_core (g : Nat → Int) (T : Nat → Nat) (p : Option Addr) (np cp : Nat) (q : Nat → Option Addr) (m t cc : Nat → Nat) (f : Nat → Nat → Int) (KP : Nat) (ht : ∀ k, min (m k : Int) 300 = (t k : Int)) (hKP : KP = min np 6) (hnc : np ≤ cp) (hcm : cp ≤ 9223372036854775807) (hT0 : T 0 = 0) (hT : ∀ k, T (k + 1) = T k + t k) (hT6 : ∀ k, k ≤ KP → T k ≤ 65536) (hTm : ∀ k, k ≤ KP → T k ≤ T KP) (hg : ∀ k j, k < KP → j < t k → g (T k + j) = f k j) (hgb : ∀ i, i < T KP → inB (g i))
    (hpr : ∀ (w : World) (base c7 : Nat) (p7 : Option Addr), w.ownsRow base 23 1 (.slice p7 KP c7) KP (slsF q t cc KP) → (∀ k, k < KP → t k ≤ cc k ∧ cc k ≤ 9223372036854775807 ∧ Byt w (q k) (t k) (f k)) → Parts w p7 KP g T)
    (w : World) (hG : Has 0 0 (nums .u32 kC 64) w) (hH : Has 1 0 (nums .u32 hC 8) w) (hd : Data w p np q m cc f) :
    Calls Tryd.prog 7 #[.slice p np cp] w fun e w' => e = .returned (.bool true) ∧ Below w.heap.size w w' := by
  have HTT := Lib.hid ht; have HKP := Lib.hid hKP; have HNC := Lib.hid hnc; have HCM := Lib.hid hcm; have HT0 := Lib.hid hT0; have HT := Lib.hid hT; have HT6 := Lib.hid hT6; have HTM := Lib.hid hTm; have HF := Lib.hid hg; have GB := Lib.hid hgb; have HD := Lib.hid hd; have HG := Lib.hid hG; have HH := Lib.hid hH; have HPR := Lib.hid hpr
  have W0 := hG.lt
  clear ht hKP hnc hcm hT0 hT hT6 hTm hg hgb hd hG hH hpr
  obtain ⟨s0, si, sz0, sz1, sz2⟩ := infoS_parts
  go_enter Tryd.func7, Tryd.ntmps7
  go_wp2_with (fail)
  go_at_call 23
  refine (New_any _ HH.out).mono ?_
  rintro e w1 ⟨K, rfl, hKw, hK, hb⟩
  have HK1 : Hid (Own K (stateH g (T 0)) w1) := Lib.hid (by rw [HT0.out, ← state_zero]; exact hK)
  have HB1 := Lib.hid hb
  have HS1 := Lib.hid (show K + 1 ≤ w1.heap.size from hK.lt)
  have HKW := Lib.hid hKw
  have nK0 : Hid (K ≠ 0) := Lib.hid (by omega)
  clear hK hKw hb W0
  have DF : Hid (∀ k, k < np → (∃ D o, p = some ⟨D, o, none⟩) ∧ m k ≤ cc k ∧ cc k ≤ 9223372036854775807 ∧ BytN w (q k) (m k) (f k) K) := Lib.hid fun k hk => by
    obtain ⟨D, o, h1, h2, h3, h4, h5, h6⟩ := HD.out k hk
    refine ⟨⟨D, o, h1⟩, h4, h5, ?_⟩
    rcases h6 with h0 | ⟨b, off, e1, e2⟩
    · exact .inl h0
    · exact .inr ⟨b, off, e1, by have := e2.lt; have := HKW.out; omega, e2⟩
  go_wp2_with (fail)
  go_loopw [4, 5, 6] (fun av sv iv wr => ∃ (k : Nat) (pa : Option Addr) (ca : Nat) (ps : Option Addr) (cs : Nat), k ≤ KP ∧ av = .slice pa (T k) ca ∧ sv = .slice ps k cs ∧ iv = .int .i64 k ∧ Hid (wr.ownsRow (K + 1) 5 1 (.slice pa (T k) ca) (T k) (nums .u8 g (T k))) ∧ Hid (wr.ownsRow (K + 1) 23 1 (.slice ps k cs) k (slsF q t cc k)) ∧ Hid (Own K (stateH g (T k)) wr) ∧ Hid (Below w.heap.size w wr) ∧ Hid (K + 1 ≤ wr.heap.size)) (fun _ _ iv _ => (6 - (intOf iv).toNat))
  case atStart =>
    refine ⟨0, none, 0, none, 0, Nat.zero_le _, ?_⟩
    rw [HT0.out]
    exact ⟨rfl, rfl, rfl, Lib.hid (World.ownsRow_nil _ _ _ _), Lib.hid (World.ownsRow_nil _ _ _ _), Lib.hid (by have := HK1.out; rwa [HT0.out] at this), HB1, HS1⟩
  case round =>
    clear HK1 HB1 HS1
    obtain ⟨k, pa, ca, ps, cs, hk, rfl, rfl, rfl, RA, RS, HK, HB, HS⟩ := hrel
    by_cases hlt : k < KP
    · have hnp : k < np := by have := HKP.out; omega
      have hk6 : k < 6 := by have := HKP.out; omega
      obtain ⟨⟨D, oo, rfl⟩, hmc, hcx, hbn⟩ := DF.out k hnp
      have hcell : wr.cell? ⟨D, oo + k, none⟩ = some (.slice (q k) (m k) (cc k)) := by
        obtain ⟨D', o', h1, _, h3, _⟩ := (HD.out.later HB.out) k hnp
        cases h1
        exact h3
      have i1 : (k : Int) < (np : Int) := by omega
      have i2 : (k : Int) < 6 := by omega
      have i3 : (0 : Int) ≤ (k : Int) := by omega
      have k63 : IntKind.i64.wrap ((k : Int) + 1) = (k : Int) + 1 := IntWalk.i64_in _ (by omega)
      have ht := HTT.out k
      have htm : t k ≤ m k := by omega
      have GF := Lib.hid (fun j (hj : j < t k) => HF.out k j hlt hj)
      have TT := Lib.hid (HT.out k)
      have T6 := Lib.hid (HT6.out (k + 1) (by omega))
      have GB1 := Lib.hid (fun i (hi : i < T (k + 1)) => GB.out i (Nat.lt_of_lt_of_le hi (HTM.out (k + 1) (by omega))))
      have FW := Lib.hid (fun w => few9_any (q k) (m k) (cc k) (t k) ht (by omega) w)
      have BN : Hid (BytN w (q k) (t k) (f k) K) := Lib.hid (by
        rcases hbn with h0 | ⟨b, off, e1, e2, e3⟩
        · exact .inl (by omega)
        · exact .inr ⟨b, off, e1, e2, has_take e3 htm⟩)
      have CC := Lib.hid (show t k ≤ cc k ∧ cc k ≤ 9223372036854775807 by omega)
      have HLT := Lib.hid hlt; have HK6 := Lib.hid hk6
      have SS := Lib.hid (slsF_succ q t cc k)
      obtain ⟨l1, el1⟩ : ∃ x, slsF q t cc k = x := ⟨_, rfl⟩
      obtain ⟨l2, el2⟩ : ∃ x, slsF q t cc (k + 1) = x := ⟨_, rfl⟩
      have EL := Lib.hid el2
      rw [el1] at RS SS
      rw [el2] at SS
      clear el1 el2
      obtain ⟨ta, eT⟩ : ∃ x, T k = x := ⟨_, rfl⟩
      obtain ⟨tb, eU⟩ : ∃ x, T (k + 1) = x := ⟨_, rfl⟩
      have EU := Lib.hid eU
      rw [eT] at RA HK TT GF
      rw [eT]
      rw [eU] at TT T6 GB1
      clear eT eU ht htm hbn hlt hk hmc hcx hk6
      generalize q k = qk at *
      generalize m k = mk at *
      generalize t k = tk at *
      generalize cc k = ck at *
      generalize f k = fk at *
      go_wp2_with (fail)
      go_at_call 19
      refine (FW.out _).mono ?_
      rintro e w2 ⟨rfl, hb⟩
      replace RA := Lib.hid (row_later RA.out hb); replace RS := Lib.hid (row_later RS.out hb); replace HK := Lib.hid (HK.out.later hb); replace HB := Lib.hid (Below.go HB.out hb); replace HS := Lib.hid (Nat.le_trans HS.out hb.size)
      clear hb hcell FW
      go_wp2_with (fail)
      obtain ⟨W3, hW⟩ : ∃ W, W = w2.alloc (.cells #[.slice qk tk ck] 23) := ⟨_, rfl⟩
      have hb : Below w2.heap.size w2 W3 := hW ▸ Below.al (Below.refl _ _)
      have HL : Hid (Own w2.heap.size [.slice qk tk ck] W3) := Lib.hid (hW ▸ Own.newAt rfl)
      rw [← hW]
      clear hW
      obtain ⟨L, eL⟩ : ∃ X, X = w2.heap.size := ⟨_, rfl⟩
      rw [← eL] at HL ⊢
      have nLK : L ≠ K := by have := HS.out; omega
      clear eL
      replace RA := Lib.hid (row_later RA.out hb); replace RS := Lib.hid (row_later RS.out hb); replace HK := Lib.hid (HK.out.later hb); replace HB := Lib.hid (Below.go HB.out hb); replace HS := Lib.hid (Nat.le_trans HS.out hb.size)
      clear hb
      have PN := Lib.hid (one_partN (K := K) (g := g) (b := tb) HL.out (BN.out.later HB.out) nLK TT.out CC.out.1 CC.out.2 GF.out)
      have T6B : Hid (∀ x, x ≤ 1 → (fun x => if x = 0 then ta else tb) x ≤ tb) := Lib.hid fun x hx => by
        have h2 := TT.out
        show (if x = 0 then ta else tb) ≤ tb
        split <;> omega
      have WC := Write_any K 1 1 (some ⟨L, 0, none⟩) g (fun x => if x = 0 then ta else tb) (fun x hx => Nat.le_trans (T6B.out x hx) (Nat.le_trans T6.out (by decide))) (Nat.le_refl _) (by decide) nK0.out (fun x hx j hj => GB1.out j (Nat.lt_of_lt_of_le hj (T6B.out x hx))) W3 (HG.out.later HB.out) HK.out PN.out
      go_at_call 24
      refine WC.mono ?_
      rintro e w4 ⟨rfl, hK4, hbut⟩
      clear WC
      replace RA := Lib.hid (row_but RA.out hbut (fun e => by have := row_ge RA.out K e; omega))
      replace RS := Lib.hid (row_but RS.out hbut (fun e => by have := row_ge RS.out K e; omega))
      replace HB := Lib.hid (HB.out.trans (hbut.below.mono HKW.out))
      replace HS := Lib.hid (Nat.le_trans HS.out hbut.below.size)
      have HK4 := Lib.hid (show Own K (stateH g tb) w4 from hK4)
      clear HK PN T6B HL hK4 hbut nLK
      have BY4 := Lib.hid (BN.out.byt.later HB.out)
      have AB := Lib.hid (show ta + tk ≤ 140737488355328 by have := T6.out; have := TT.out; omega)
      have XS := Lib.hid (nums_append .u8 g fk ta tk GF.out)
      have KM := Lib.hid (show k + 1 ≤ maxLen by have := HK6.out; unfold maxLen; omega)
      have KB := Lib.hid (show (k + 1) * 24 ≤ 140737488355328 by have := HK6.out; omega)
      go_wp2_with (first | (at_builtin; refine wpList_append_b rfl _ _ rfl (K + 1) _ ta _ rfl RA.out qk tk ck fk rfl BY4.out AB.out HS.out ?_; intro v5 w5 hrow hgr; rw [XS.out, ← TT.out] at hrow; obtain ⟨pa2, ca2, rfl, _⟩ := row_form hrow; have hne1 := row_ne RA.out (show K < K + 1 by omega); have HK5 := Lib.hid (HK4.out.grown hgr hne1); have RS5 := Lib.hid (RS.out.kept hgr (rows_ne RS.out RA.out (by decide))); have HB5 := Lib.hid (HB.out.grown hgr HB.out.size fun x hx => by have := row_ge RA.out x hx; have := HKW.out; omega); have HS5 := Lib.hid (Nat.le_trans HS.out hgr.size); have RA5 := Lib.hid hrow; clear hrow hgr hne1 RA RS HB HS HK4 BY4 XS) | (at_builtin; have hb := (show Below w5.heap.size w5 (w5.alloc (.cells #[.slice qk tk ck] 23)) from Below.al (Below.refl _ _)); have RS6 := Lib.hid (row_later RS5.out hb); have HS6 := Lib.hid (Nat.le_trans HS5.out hb.size); have RA6 := Lib.hid (row_later RA5.out hb); have HK6 := Lib.hid (HK5.out.later hb); have HB6 := Lib.hid (Below.go HB5.out hb); clear hb RS5 HS5 RA5 HK5 HB5; refine wpList_append_own _ rfl _ _ 44 rfl (K + 1) 23 s0 (.slice none 0 0) 1 24 Tryd.underlying44 si sz0 sz1 sz2 rfl (by decide) _ k _ rfl RS6.out ⟨w5.heap.size, 0, none⟩ 1 1 [_] rfl rfl ((Own.newAt rfl).news) (by simp [Value.oneCell']) KM.out KB.out HS6.out ?_; intro v' w6 hrow hgr _; obtain ⟨ps2, cs2, rfl, _⟩ := row_form hrow; rw [SS.out] at hrow; have RA7 := Lib.hid (RA6.out.kept hgr (rows_ne RA6.out RS6.out (by decide))); have hne1 := row_ne RS6.out (show K < K + 1 by omega); have HK7 := Lib.hid (HK6.out.grown hgr hne1); have HB7 := Lib.hid (HB6.out.grown hgr HB6.out.size fun x hx => by have := row_ge RS6.out x hx; have := HKW.out; omega); have HS7 := Lib.hid (Nat.le_trans HS6.out hgr.size); have RS7 := Lib.hid hrow; clear hrow hgr hne1 RS6 RA6 HK6 HB6 HS6))
      have CP7 := Lib.hid (row_cap_ RA7.out)
      have SU := Lib.hid (fun w h1 h2 => HSum_any K tb g (Nat.le_trans T6.out (by decide)) GB1.out w h1 h2)
      have RT := Lib.hid (fun w hb => RSum_any pa2 tb ca2 g (Nat.le_trans T6.out (by decide)) GB1.out w hb)
      obtain ⟨sf, esf⟩ : ∃ x, sumF g tb = x := ⟨_, rfl⟩
      rw [esf] at SU RT
      clear esf
      have EQ := Lib.hid (fun w => eqin_nums (P := Tryd.prog) (f := sf) (k := .u8) (n := 32) (w := w) Tryd.underlying35 Tryd.underlying5 (by simp [go_sem]) (by simp [go_sem]))
      go_at_call 25
      refine (SU.out _ (HG.out.later HB7.out) HK7.out).mono ?_
      rintro e w7 ⟨rfl, hb⟩
      replace RA7 := Lib.hid (row_later RA7.out hb); replace RS7 := Lib.hid (row_later RS7.out hb); replace HK7 := Lib.hid (HK7.out.later hb); replace HB7 := Lib.hid (Below.go HB7.out hb); replace HS7 := Lib.hid (Nat.le_trans HS7.out hb.size)
      clear hb SU
      go_wp2_with (fail)
      go_at_call 20
      refine (RT.out _ (byt_row RA7.out).2).mono ?_
      rintro e w8 ⟨rfl, hb⟩
      have RA8 : Hid (w8.ownsRow (K + 1) 5 1 (.slice pa2 (T (k + 1)) ca2) (T (k + 1)) (nums .u8 g (T (k + 1)))) := Lib.hid (by rw [EU.out]; exact row_later RA7.out hb)
      have RS8 : Hid (w8.ownsRow (K + 1) 23 1 (.slice ps2 (k + 1) cs2) (k + 1) (slsF q t cc (k + 1))) := Lib.hid (by rw [EL.out]; exact row_later RS7.out hb)
      have HK8 : Hid (Own K (stateH g (T (k + 1))) w8) := Lib.hid (by rw [EU.out]; exact HK7.out.later hb)
      have HB8 := Lib.hid (Below.go HB7.out hb); have HS8 := Lib.hid (Nat.le_trans HS7.out hb.size)
      clear hb RT RA7 RS7 HK7 HB7 HS7 CP7
      have hq := EQ.out w8
      clear EQ
      go_wp2_with (fail)
      go_roundw
      case rel => (first | exact ⟨k + 1, pa2, ca2, ps2, cs2, HLT.out, by rw [EU.out], rfl, by go_num, RA8, RS8, HK8, HB8, HS8⟩ | ((repeat apply Exists.intro); exact ⟨⟨k + 1, pa2, ca2, ps2, cs2, HLT.out, by rw [EU.out], rfl, by go_num, RA8, RS8, HK8, HB8, HS8⟩, rfl⟩))
      case measure => (have := HK6.out; simp [intOf]; omega)
    · by_cases hq : k < np
      · obtain rfl : KP = k := by omega
        have i1 : (KP : Int) < (np : Int) := by omega
        have i2 : decide ((KP : Int) < 6) = false := decide_eq_false (by have := HKP.out; omega)
        clear hlt hk hq
        have PT : Hid (Parts wr ps KP g T) := Lib.hid (HPR.out wr (K + 1) cs ps RS.out (fun k hk => by
          obtain ⟨D', o', _, _, _, h4, h5, h6⟩ := (HD.out.later HB.out) k (by have := HKP.out; omega)
          have htk := HTT.out k
          exact ⟨by omega, h5, byt_take h6 (by omega)⟩))
        have CS := Lib.hid (row_cap_ RS.out)
        obtain ⟨tb, eT⟩ : ∃ x, T KP = x := ⟨_, rfl⟩
        have T6 := Lib.hid (show tb ≤ 65536 by rw [← eT]; exact HT6.out KP (Nat.le_refl _))
        have GB1 : Hid (∀ i, i < tb → inB (g i)) := Lib.hid (by rw [← eT]; exact GB.out)
        obtain ⟨sf, esf⟩ : ∃ x, sumF g tb = x := ⟨_, rfl⟩
        have SC := Lib.hid (fun w h1 h2 h3 => Sum_of KP cs tb ps g sf T eT esf HT0.out (fun k hk => Nat.le_trans (HT6.out k hk) (by decide)) CS.out.1 CS.out.2 (fun k hk j hj => GB.out j (Nat.lt_of_lt_of_le hj (HTM.out k hk))) w h1 h2 h3)
        have RT := Lib.hid (fun w hb => RSum_any pa tb ca g (Nat.le_trans T6.out (by decide)) GB1.out w hb)
        rw [esf] at RT
        rw [eT] at RA HK
        rw [eT]
        clear eT esf HT6 HTM HF GB HTT HT HT0 DF HD RS CS HPR T6 GB1
        have EQ := Lib.hid (fun (h : Nat → Int) w => eqin_nums (P := Tryd.prog) (f := h) (k := .u8) (n := 32) (w := w) Tryd.underlying35 Tryd.underlying5 (by simp [go_sem]) (by simp [go_sem]))
        go_upto_region 16 with fail
        obtain ⟨W6, hW⟩ : ∃ W, W = wr.alloc (.cells zeroH.toArray 50) := ⟨_, rfl⟩
        have hb : Below wr.heap.size wr W6 := hW ▸ Below.al (Below.refl _ _)
        have HN : Hid (Own wr.heap.size zeroH W6) := Lib.hid (hW ▸ Own.newAt rfl)
        rw [← hW]
        clear hW
        obtain ⟨N_, eN⟩ : ∃ X, X = wr.heap.size := ⟨_, rfl⟩
        rw [← eN] at HN ⊢
        clear eN
        replace RA := Lib.hid (row_later RA.out hb); replace HK := Lib.hid (HK.out.later hb); replace PT := Lib.hid (PT.out.later hb); replace HB := Lib.hid (Below.go HB.out hb); replace HS := Lib.hid (Nat.le_trans HS.out hb.size)
        clear hb
        refine wp_region_lit ?_
        refine wpList_slN rfl 23 5 1 _ rfl .u8 [120] (fun _ => 120) Tryd.underlying23 (by kernel_rfl) (by kernel_rfl) rfl (by decide) (by decide) (by kernel_rfl) (by kernel_rfl) ?_
        refine wpList_conv rfl _ rfl rfl ?_
        obtain ⟨W7, hW⟩ : ∃ W, W = (W6.alloc (.cells (nums .u8 (fun _ => 120) 1).toArray 5 ((nums .u8 (fun _ => 120) 1).toArray.size, (nums .u8 (fun _ => 120) 1).toArray.size + 1))) := ⟨_, rfl⟩
        have hb : Below W6.heap.size W6 W7 := hW ▸ Below.al (Below.refl _ _)
        rw [← hW]
        clear hW
        obtain ⟨A_, eA⟩ : ∃ X, X = W6.heap.size := ⟨_, rfl⟩
        rw [← eA]
        clear eA
        replace RA := Lib.hid (row_later RA.out hb); replace HK := Lib.hid (HK.out.later hb); replace PT := Lib.hid (PT.out.later hb); replace HB := Lib.hid (Below.go HB.out hb); replace HS := Lib.hid (Nat.le_trans HS.out hb.size); replace HN := Lib.hid (HN.out.later hb)
        clear hb
        go_wp2_with (fail)
        obtain ⟨W8, hW⟩ : ∃ W, W = W7.alloc (.cells #[.slice (some ⟨A_, 0, none⟩) 1 1] 23) := ⟨_, rfl⟩
        have hb : Below W7.heap.size W7 W8 := hW ▸ Below.al (Below.refl _ _)
        rw [← hW]
        clear hW
        obtain ⟨A_2, eA⟩ : ∃ X, X = W7.heap.size := ⟨_, rfl⟩
        rw [← eA]
        clear eA
        replace RA := Lib.hid (row_later RA.out hb); replace HK := Lib.hid (HK.out.later hb); replace PT := Lib.hid (PT.out.later hb); replace HB := Lib.hid (Below.go HB.out hb); replace HS := Lib.hid (Nat.le_trans HS.out hb.size); replace HN := Lib.hid (HN.out.later hb)
        clear hb
        go_at_call 24
        refine (Write_unmade N_ _ _ _ _ (HN.out.at 73 _ (by kernel_rfl))).mono ?_
        rintro e w9 ⟨rfl, rfl⟩
        go_upto_region 18 with fail
        refine wp_region_lit ?_
        refine wpList_move rfl _ rfl ?_
        refine wpList_slN rfl 23 5 1 _ rfl .u8 [120] (fun _ => 120) Tryd.underlying23 (by kernel_rfl) (by kernel_rfl) rfl (by decide) (by decide) (by kernel_rfl) (by kernel_rfl) ?_
        refine wpList_conv rfl _ rfl rfl ?_
        obtain ⟨W9, hW⟩ : ∃ W, W = (w9.alloc (.cells (nums .u8 (fun _ => 120) 1).toArray 5 ((nums .u8 (fun _ => 120) 1).toArray.size, (nums .u8 (fun _ => 120) 1).toArray.size + 1))) := ⟨_, rfl⟩
        have hb : Below w9.heap.size w9 W9 := hW ▸ Below.al (Below.refl _ _)
        rw [← hW]
        clear hW
        obtain ⟨C_, eA⟩ : ∃ X, X = w9.heap.size := ⟨_, rfl⟩
        rw [← eA]
        clear eA
        replace RA := Lib.hid (row_later RA.out hb); replace HK := Lib.hid (HK.out.later hb); replace PT := Lib.hid (PT.out.later hb); replace HB := Lib.hid (Below.go HB.out hb); replace HS := Lib.hid (Nat.le_trans HS.out hb.size); replace HN := Lib.hid (HN.out.later hb)
        clear hb
        go_wp2_with (fail)
        obtain ⟨X1, hW⟩ : ∃ W, W = W9.alloc (.cells #[.slice (some ⟨C_, 0, none⟩) 1 1] 23) := ⟨_, rfl⟩
        have hb : Below W9.heap.size W9 X1 := hW ▸ Below.al (Below.refl _ _)
        rw [← hW]
        clear hW
        obtain ⟨C_2, eA⟩ : ∃ X, X = W9.heap.size := ⟨_, rfl⟩
        rw [← eA]
        clear eA
        replace RA := Lib.hid (row_later RA.out hb); replace HK := Lib.hid (HK.out.later hb); replace PT := Lib.hid (PT.out.later hb); replace HB := Lib.hid (Below.go HB.out hb); replace HS := Lib.hid (Nat.le_trans HS.out hb.size); replace HN := Lib.hid (HN.out.later hb)
        clear hb
        go_at_call 24
        refine (Write_nil _ _ _ _).mono ?_
        rintro e w10 ⟨rfl, rfl⟩
        go_wp2_with (fail)
        go_at_call 17
        refine (SC.out _ (HG.out.later HB.out) (HH.out.later HB.out) PT.out).mono ?_
        rintro e w11 ⟨rfl, hb⟩
        replace RA := Lib.hid (row_later RA.out hb); replace HK := Lib.hid (HK.out.later hb); replace PT := Lib.hid (PT.out.later hb); replace HB := Lib.hid (Below.go HB.out hb); replace HS := Lib.hid (Nat.le_trans HS.out hb.size); replace HN := Lib.hid (HN.out.later hb)
        clear hb SC
        go_wp2_with (fail)
        go_at_call 20
        refine (RT.out _ (byt_row RA.out).2).mono ?_
        rintro e w12 ⟨rfl, hb⟩
        replace RA := Lib.hid (row_later RA.out hb); replace HK := Lib.hid (HK.out.later hb); replace PT := Lib.hid (PT.out.later hb); replace HB := Lib.hid (Below.go HB.out hb); replace HS := Lib.hid (Nat.le_trans HS.out hb.size); replace HN := Lib.hid (HN.out.later hb)
        clear hb RT PT RA HK
        have hq := EQ.out sf w12
        go_wp2_with (fail)
        go_at_call 25
        refine (HSum_unmade N_ _ (HN.out.at 73 _ (by kernel_rfl))).mono ?_
        rintro e w13 ⟨rfl, hb⟩
        replace HB := Lib.hid (Below.go HB.out hb)
        clear hb hq HN
        have hz : (nums .u8 (fun _ => 0) 32).toArray = #[.int .u8 0, .int .u8 0, .int .u8 0, .int .u8 0, .int .u8 0, .int .u8 0, .int .u8 0, .int .u8 0, .int .u8 0, .int .u8 0, .int .u8 0, .int .u8 0, .int .u8 0, .int .u8 0, .int .u8 0, .int .u8 0, .int .u8 0, .int .u8 0, .int .u8 0, .int .u8 0, .int .u8 0, .int .u8 0, .int .u8 0, .int .u8 0, .int .u8 0, .int .u8 0, .int .u8 0, .int .u8 0, .int .u8 0, .int .u8 0, .int .u8 0, .int .u8 0] := by kernel_rfl
        have hq := EQ.out (fun _ => 0) w13
        rw [hz] at hq
        go_wp2_with (fail)
        go_at_call 25
        refine (HSum_nil _).mono ?_
        rintro e w14 ⟨rfl, hb⟩
        replace HB := Lib.hid (Below.go HB.out hb)
        clear hb hq
        have hq := EQ.out (fun _ => 0) w14
        rw [hz] at hq
        go_wp2_with (fail)
        go_at_call 13
        refine (works_any _ (HG.out.later HB.out) (HH.out.later HB.out)).mono ?_
        rintro e w15 ⟨rfl, hb⟩
        replace HB := Lib.hid (Below.go HB.out hb)
        clear hb hq hz
        go_wp2_with (fail)
        go_ret
        exact ⟨rfl, HB.out⟩
      · obtain rfl : KP = k := by omega
        have i1 : decide ((KP : Int) < (np : Int)) = false := decide_eq_false (by omega)
        have i1n : decide (KP < np) = false := decide_eq_false hq
        have i3 : ¬ (KP : Int) < (np : Int) := by omega
        clear hlt hk hq
        have PT : Hid (Parts wr ps KP g T) := Lib.hid (HPR.out wr (K + 1) cs ps RS.out (fun k hk => by
          obtain ⟨D', o', _, _, _, h4, h5, h6⟩ := (HD.out.later HB.out) k (by have := HKP.out; omega)
          have htk := HTT.out k
          exact ⟨by omega, h5, byt_take h6 (by omega)⟩))
        have CS := Lib.hid (row_cap_ RS.out)
        obtain ⟨tb, eT⟩ : ∃ x, T KP = x := ⟨_, rfl⟩
        have T6 := Lib.hid (show tb ≤ 65536 by rw [← eT]; exact HT6.out KP (Nat.le_refl _))
        have GB1 : Hid (∀ i, i < tb → inB (g i)) := Lib.hid (by rw [← eT]; exact GB.out)
        obtain ⟨sf, esf⟩ : ∃ x, sumF g tb = x := ⟨_, rfl⟩
        have SC := Lib.hid (fun w h1 h2 h3 => Sum_of KP cs tb ps g sf T eT esf HT0.out (fun k hk => Nat.le_trans (HT6.out k hk) (by decide)) CS.out.1 CS.out.2 (fun k hk j hj => GB.out j (Nat.lt_of_lt_of_le hj (HTM.out k hk))) w h1 h2 h3)
        have RT := Lib.hid (fun w hb => RSum_any pa tb ca g (Nat.le_trans T6.out (by decide)) GB1.out w hb)
        rw [esf] at RT
        rw [eT] at RA HK
        rw [eT]
        clear eT esf HT6 HTM HF GB HTT HT HT0 DF HD RS CS HPR T6 GB1
        have EQ := Lib.hid (fun (h : Nat → Int) w => eqin_nums (P := Tryd.prog) (f := h) (k := .u8) (n := 32) (w := w) Tryd.underlying35 Tryd.underlying5 (by simp [go_sem]) (by simp [go_sem]))
        go_upto_region 16 with fail
        obtain ⟨W6, hW⟩ : ∃ W, W = wr.alloc (.cells zeroH.toArray 50) := ⟨_, rfl⟩
        have hb : Below wr.heap.size wr W6 := hW ▸ Below.al (Below.refl _ _)
        have HN : Hid (Own wr.heap.size zeroH W6) := Lib.hid (hW ▸ Own.newAt rfl)
        rw [← hW]
        clear hW
        obtain ⟨N_, eN⟩ : ∃ X, X = wr.heap.size := ⟨_, rfl⟩
        rw [← eN] at HN ⊢
        clear eN
        replace RA := Lib.hid (row_later RA.out hb); replace HK := Lib.hid (HK.out.later hb); replace PT := Lib.hid (PT.out.later hb); replace HB := Lib.hid (Below.go HB.out hb); replace HS := Lib.hid (Nat.le_trans HS.out hb.size)
        clear hb
        refine wp_region_lit ?_
        refine wpList_slN rfl 23 5 1 _ rfl .u8 [120] (fun _ => 120) Tryd.underlying23 (by kernel_rfl) (by kernel_rfl) rfl (by decide) (by decide) (by kernel_rfl) (by kernel_rfl) ?_
        refine wpList_conv rfl _ rfl rfl ?_
        obtain ⟨W7, hW⟩ : ∃ W, W = (W6.alloc (.cells (nums .u8 (fun _ => 120) 1).toArray 5 ((nums .u8 (fun _ => 120) 1).toArray.size, (nums .u8 (fun _ => 120) 1).toArray.size + 1))) := ⟨_, rfl⟩
        have hb : Below W6.heap.size W6 W7 := hW ▸ Below.al (Below.refl _ _)
        rw [← hW]
        clear hW
        obtain ⟨A_, eA⟩ : ∃ X, X = W6.heap.size := ⟨_, rfl⟩
        rw [← eA]
        clear eA
        replace RA := Lib.hid (row_later RA.out hb); replace HK := Lib.hid (HK.out.later hb); replace PT := Lib.hid (PT.out.later hb); replace HB := Lib.hid (Below.go HB.out hb); replace HS := Lib.hid (Nat.le_trans HS.out hb.size); replace HN := Lib.hid (HN.out.later hb)
        clear hb
        go_wp2_with (fail)
        obtain ⟨W8, hW⟩ : ∃ W, W = W7.alloc (.cells #[.slice (some ⟨A_, 0, none⟩) 1 1] 23) := ⟨_, rfl⟩
        have hb : Below W7.heap.size W7 W8 := hW ▸ Below.al (Below.refl _ _)
        rw [← hW]
        clear hW
        obtain ⟨A_2, eA⟩ : ∃ X, X = W7.heap.size := ⟨_, rfl⟩
        rw [← eA]
        clear eA
        replace RA := Lib.hid (row_later RA.out hb); replace HK := Lib.hid (HK.out.later hb); replace PT := Lib.hid (PT.out.later hb); replace HB := Lib.hid (Below.go HB.out hb); replace HS := Lib.hid (Nat.le_trans HS.out hb.size); replace HN := Lib.hid (HN.out.later hb)
        clear hb
        go_at_call 24
        refine (Write_unmade N_ _ _ _ _ (HN.out.at 73 _ (by kernel_rfl))).mono ?_
        rintro e w9 ⟨rfl, rfl⟩
        go_upto_region 18 with fail
        refine wp_region_lit ?_
        refine wpList_move rfl _ rfl ?_
        refine wpList_slN rfl 23 5 1 _ rfl .u8 [120] (fun _ => 120) Tryd.underlying23 (by kernel_rfl) (by kernel_rfl) rfl (by decide) (by decide) (by kernel_rfl) (by kernel_rfl) ?_
        refine wpList_conv rfl _ rfl rfl ?_
        obtain ⟨W9, hW⟩ : ∃ W, W = (w9.alloc (.cells (nums .u8 (fun _ => 120) 1).toArray 5 ((nums .u8 (fun _ => 120) 1).toArray.size, (nums .u8 (fun _ => 120) 1).toArray.size + 1))) := ⟨_, rfl⟩
        have hb : Below w9.heap.size w9 W9 := hW ▸ Below.al (Below.refl _ _)
        rw [← hW]
        clear hW
        obtain ⟨C_, eA⟩ : ∃ X, X = w9.heap.size := ⟨_, rfl⟩
        rw [← eA]
        clear eA
        replace RA := Lib.hid (row_later RA.out hb); replace HK := Lib.hid (HK.out.later hb); replace PT := Lib.hid (PT.out.later hb); replace HB := Lib.hid (Below.go HB.out hb); replace HS := Lib.hid (Nat.le_trans HS.out hb.size); replace HN := Lib.hid (HN.out.later hb)
        clear hb
        go_wp2_with (fail)
        obtain ⟨X1, hW⟩ : ∃ W, W = W9.alloc (.cells #[.slice (some ⟨C_, 0, none⟩) 1 1] 23) := ⟨_, rfl⟩
        have hb : Below W9.heap.size W9 X1 := hW ▸ Below.al (Below.refl _ _)
        rw [← hW]
        clear hW
        obtain ⟨C_2, eA⟩ : ∃ X, X = W9.heap.size := ⟨_, rfl⟩
        rw [← eA]
        clear eA
        replace RA := Lib.hid (row_later RA.out hb); replace HK := Lib.hid (HK.out.later hb); replace PT := Lib.hid (PT.out.later hb); replace HB := Lib.hid (Below.go HB.out hb); replace HS := Lib.hid (Nat.le_trans HS.out hb.size); replace HN := Lib.hid (HN.out.later hb)
        clear hb
        go_at_call 24
        refine (Write_nil _ _ _ _).mono ?_
        rintro e w10 ⟨rfl, rfl⟩
        go_wp2_with (fail)
        go_at_call 17
        refine (SC.out _ (HG.out.later HB.out) (HH.out.later HB.out) PT.out).mono ?_
        rintro e w11 ⟨rfl, hb⟩
        replace RA := Lib.hid (row_later RA.out hb); replace HK := Lib.hid (HK.out.later hb); replace PT := Lib.hid (PT.out.later hb); replace HB := Lib.hid (Below.go HB.out hb); replace HS := Lib.hid (Nat.le_trans HS.out hb.size); replace HN := Lib.hid (HN.out.later hb)
        clear hb SC
        go_wp2_with (fail)
        go_at_call 20
        refine (RT.out _ (byt_row RA.out).2).mono ?_
        rintro e w12 ⟨rfl, hb⟩
        replace RA := Lib.hid (row_later RA.out hb); replace HK := Lib.hid (HK.out.later hb); replace PT := Lib.hid (PT.out.later hb); replace HB := Lib.hid (Below.go HB.out hb); replace HS := Lib.hid (Nat.le_trans HS.out hb.size); replace HN := Lib.hid (HN.out.later hb)
        clear hb RT PT RA HK
        have hq := EQ.out sf w12
        go_wp2_with (fail)
        go_at_call 25
        refine (HSum_unmade N_ _ (HN.out.at 73 _ (by kernel_rfl))).mono ?_
        rintro e w13 ⟨rfl, hb⟩
        replace HB := Lib.hid (Below.go HB.out hb)
        clear hb hq HN
        have hz : (nums .u8 (fun _ => 0) 32).toArray = #[.int .u8 0, .int .u8 0, .int .u8 0, .int .u8 0, .int .u8 0, .int .u8 0, .int .u8 0, .int .u8 0, .int .u8 0, .int .u8 0, .int .u8 0, .int .u8 0, .int .u8 0, .int .u8 0, .int .u8 0, .int .u8 0, .int .u8 0, .int .u8 0, .int .u8 0, .int .u8 0, .int .u8 0, .int .u8 0, .int .u8 0, .int .u8 0, .int .u8 0, .int .u8 0, .int .u8 0, .int .u8 0, .int .u8 0, .int .u8 0, .int .u8 0, .int .u8 0] := by kernel_rfl
        have hq := EQ.out (fun _ => 0) w13
        rw [hz] at hq
        go_wp2_with (fail)
        go_at_call 25
        refine (HSum_nil _).mono ?_
        rintro e w14 ⟨rfl, hb⟩
        replace HB := Lib.hid (Below.go HB.out hb)
        clear hb hq
        have hq := EQ.out (fun _ => 0) w14
        rw [hz] at hq
        go_wp2_with (fail)
        go_at_call 13
        refine (works_any _ (HG.out.later HB.out) (HH.out.later HB.out)).mono ?_
        rintro e w15 ⟨rfl, hb⟩
        replace HB := Lib.hid (Below.go HB.out hb)
        clear hb hq hz
        go_wp2_with (fail)
        go_ret
        exact ⟨rfl, HB.out⟩


theorem catF_in (t : Nat → Nat) (f : Nat → Nat → Int) : ∀ K, (∀ k j, k < K → j < t k → inB (f k j)) → ∀ x, x < sumT t K → inB (catF t f K x)
  | 0, _, x, hx => absurd hx (Nat.not_lt_zero x)
  | K + 1, h, x, hx => by
    unfold catF
    by_cases hl : x < sumT t K
    · rw [if_pos hl]
      exact catF_in t f K (fun k j hk hj => h k j (by omega) hj) x hl
    · rw [if_neg hl]
      exact h K _ (by omega) (by simp only [sumT] at hx; omega)
theorem Writes_law (p : Option Addr) (np cp : Nat) (q : Nat → Option Addr) (m cc : Nat → Nat) (f : Nat → Nat → Int) (hnc : np ≤ cp) (hcm : cp ≤ 9223372036854775807) (w : World) (hG : Has 0 0 (nums .u32 kC 64) w) (hH : Has 1 0 (nums .u32 hC 8) w) (hd : Data w p np q m cc f) (hb : ∀ k, k < np → ∀ j, j < m k → inB (f k j)) :
    Calls Tryd.prog 7 #[.slice p np cp] w fun e w' => e = .returned (.bool true) ∧ Below w.heap.size w w' := by
  obtain ⟨t, ht⟩ : ∃ t : Nat → Nat, ∀ k, t k = min (m k) 300 := ⟨_, fun _ => rfl⟩
  have tm := sumT_max t 300 (fun k => by have := ht k; omega)
  exact Writes_core (catF t f (min np 6)) (sumT t) p np cp q m t cc f (min np 6) (fun k => by have := ht k; omega) rfl hnc hcm rfl (fun _ => rfl)
    (fun k hk => by have := tm k; omega) (fun k hk => sumT_le t hk) (fun k j hk hj => catF_at t f _ k j hk hj) (catF_in t f _ fun k j hk hj => hb k (by omega) j (by have := ht k; omega)) (fun _ _ _ _ h hb => parts_row h hb) w hG hH hd
end Go.Proofs.YtajejlaoompieaaDoor
