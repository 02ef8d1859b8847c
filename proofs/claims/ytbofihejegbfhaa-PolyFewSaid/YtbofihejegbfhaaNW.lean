/- poly.Tag. -/
import Derived.Test.YtbofihejegbfhaaNV
import Derived.Lib.Hide
namespace Go.Proofs.Ytbofihejegbfhaa
set_option linter.unusedVariables false
set_option maxRecDepth 2000
set_option linter.unusedSimpArgs false
open Go.RowKit
theorem Parts.away {w w' : World} {p : Option Addr} {np K : Nat} {g : Nat → Int} {T : Nat → Nat} (h : Parts w p np g T) (hb : Below w.heap.size w w') (hK : w.heap.size ≤ K) : PartsN w' p np g T K := fun k hk => by
  obtain ⟨D, o, q, m, c, h1, h2, h3, h4, h5, h6, h7⟩ := h k hk
  refine ⟨D, o, q, m, c, h1, by omega, Nat.lt_of_lt_of_le h2 hb.size, (hb.cell (p := ⟨D, o + k, none⟩) h2).trans h3, h4, h5, h6, ?_⟩
  rcases h7 with h0 | ⟨b, off, e1, e2⟩
  · exact .inl h0
  · exact .inr ⟨b, off, e1, by have := e2.lt; omega, e2.later hb⟩
theorem DatK.byt {w : World} {v : Value} {n base K : Nat} {g : Nat → Int} {p0 : Option Addr} (h : DatK w v n g base K p0) (hn : n ≤ 65536) : ∃ p c, v = .slice p n c ∧ n ≤ c ∧ c ≤ 9223372036854775807 ∧ Byt w p n g := by
  rcases h with ⟨p, h1, _, h3⟩ | h
  · exact ⟨p, n, h1, Nat.le_refl _, by omega, h3.1.byt⟩
  · rcases h.2 with ⟨rfl, rfl⟩ | ⟨G, cap, cur, rfl, hG, hh, hc, hm, _⟩
    · exact ⟨none, 0, rfl, Nat.le_refl _, by omega, .inl rfl⟩
    · exact ⟨_, cap, rfl, hc, hm, .inr ⟨G, 0, rfl, (row_has' h).1⟩⟩
attribute [local go_sem] nums_length

set_option maxHeartbeats 4000000 in
theorem Tag_any (kf g : Nat → Int) (P_ : Option Addr) (np cp : Nat) (T : Nat → Nat) (hk : ∀ i, i < 32 → inB (kf i)) (hg : ∀ i, i < T np → inB (g i)) (hT0 : T 0 = 0) (hT : ∀ k, k ≤ np → T k ≤ 65536) (hnp : np ≤ cp) (hcp : cp ≤ 9223372036854775807) (w : World) (hP : Parts w P_ np g T) :
    Calls Try.prog 15 #[(.agg (nums .u8 kf 32).toArray), .slice P_ np cp] w fun e w' => e = .returned (.agg (nums .u8 (byt (tagN kf g (T np))) 16).toArray) ∧ Below w.heap.size w w' := by
  have KB := Lib.hid hk; have GB := Lib.hid hg; have HT0 := Lib.hid hT0; have HT := Lib.hid hT; have HNP := Lib.hid hnp; have HCP := Lib.hid hcp; have HP := Lib.hid hP
  clear hk hg hT0 hT hnp hcp hP
  go_enter Try.func15, Try.ntmps15
  go_upto_region 2 with fail
  obtain ⟨W0, hW⟩ : ∃ W0, W0 = (((w.alloc (.cells (nums .u8 kf 32).toArray 22)).alloc (.cells #[.int .u8 0, .int .u8 0, .int .u8 0, .int .u8 0, .int .u8 0, .int .u8 0, .int .u8 0, .int .u8 0, .int .u8 0, .int .u8 0, .int .u8 0, .int .u8 0, .int .u8 0, .int .u8 0, .int .u8 0, .int .u8 0] 29)).alloc (.cells #[.slice none 0 0] 33)) := ⟨_, rfl⟩
  have hB0 : Below w.heap.size w W0 := hW ▸ (Below.al (Below.al (Below.al (Below.refl _ _))))
  have HY : Hid (Own w.heap.size (nums .u8 kf 32) W0) := Lib.hid (hW ▸ (show Own w.heap.size (nums .u8 kf 32) (w.alloc (.cells (nums .u8 kf 32).toArray 22)) from Own.newAt (by simp)).alloc.alloc)
  have HR : Hid (Own (w.heap.size + 1) (nums .u8 (fun _ => 0) 16) W0) := Lib.hid (hW ▸ (show Own (w.heap.size + 1) (nums .u8 (fun _ => 0) 16) ((w.alloc (.cells (nums .u8 kf 32).toArray 22)).alloc (.cells #[.int .u8 0, .int .u8 0, .int .u8 0, .int .u8 0, .int .u8 0, .int .u8 0, .int .u8 0, .int .u8 0, .int .u8 0, .int .u8 0, .int .u8 0, .int .u8 0, .int .u8 0, .int .u8 0, .int .u8 0, .int .u8 0] 29)) from Own.newAt (by simp)).alloc)
  have HK : Hid (Own ((w.heap.size + 1) + 1) ([.slice none 0 0]) W0) := Lib.hid (hW ▸ (show Own ((w.heap.size + 1) + 1) ([.slice none 0 0]) (((w.alloc (.cells (nums .u8 kf 32).toArray 22)).alloc (.cells #[.int .u8 0, .int .u8 0, .int .u8 0, .int .u8 0, .int .u8 0, .int .u8 0, .int .u8 0, .int .u8 0, .int .u8 0, .int .u8 0, .int .u8 0, .int .u8 0, .int .u8 0, .int .u8 0, .int .u8 0, .int .u8 0] 29)).alloc (.cells #[.slice none 0 0] 33)) from Own.newAt (by simp)))
  rw [← hW]
  clear hW
  obtain ⟨K, eK⟩ : ∃ X, X = ((w.heap.size + 1) + 1) := ⟨_, rfl⟩
  rw [← eK] at HK ⊢
  have Kw : w.heap.size ≤ K := by omega
  obtain ⟨R, eR⟩ : ∃ X, X = (w.heap.size + 1) := ⟨_, rfl⟩
  rw [← eR] at HR ⊢
  have Rw : w.heap.size ≤ R := by omega
  obtain ⟨Y, eY⟩ : ∃ X, X = w.heap.size := ⟨_, rfl⟩
  rw [← eY] at HY ⊢
  have Yw : w.heap.size ≤ Y := by omega
  have nYR : Y ≠ R := by omega
  have nRY : R ≠ Y := by omega
  have nYK : Y ≠ K := by omega
  have nKY : K ≠ Y := by omega
  have nRK : R ≠ K := by omega
  have nKR : K ≠ R := by omega
  clear eY eR eK
  have PN := Lib.hid (HP.out.away hB0 Kw)
  go_wp2_with (fail)
  go_at_call 16
  refine (keep_any K 0 [.slice none 0 0] none 0 0 g P_ np cp T rfl (Nat.le_refl _) (fun _ => rfl) HT0.out HT.out HNP.out HCP.out _ HK.out (.inl rfl) PN.out).mono ?_
  rintro e w1 ⟨v1, rfl, hdat, hKs, hbut⟩
  obtain ⟨p1, c1, rfl, n1, c2, hby⟩ := hdat.byt (HT.out np (Nat.le_refl _))
  have HY1 := Lib.hid (HY.out.but hbut nYK)
  have HR1 := Lib.hid (HR.out.but hbut nRK)
  have HK1 := Lib.hid (show Has K 0 [.slice p1 (T np) c1] w1 from hKs.has)
  have hB1 : Below w.heap.size w w1 := hB0.trans (hbut.below.mono Kw)
  have BY := Lib.hid hby
  have N1 := Lib.hid n1; have C2 := Lib.hid c2; have N6 := Lib.hid (HT.out np (Nat.le_refl _))
  clear HY HR HK PN hB0 hdat hKs hbut hby n1 c2
  have HY := HY1; have HR := HR1
  clear HY1 HR1
  have hB0 := hB1
  clear hB1
  obtain ⟨n, en⟩ : ∃ n, T np = n := ⟨_, rfl⟩
  rw [en] at HK1 BY N1 N6 GB
  have EN := Lib.hid en
  clear en
  go_upto_region 3 with fail
  refine wp_region_lit ?_
  refine wpList_load_mid rfl 22 _ rfl Y 0 rfl (nums .u8 kf 32) _ HY.out.cell Try.underlying22 rfl (by kernel_rfl) ?_
  go_wp2_with (fail)
  go_at_call 17
  refine (tag_any kf g K 0 p1 n c1 KB.out GB.out N6.out N1.out C2.out _ HK1.out BY.out).mono ?_
  rintro e w2 ⟨rfl, hb⟩
  have HRk := Lib.hid (HR.out.later hb)
  clear HR
  have HR := HRk
  clear HRk
  obtain ⟨T_, eT⟩ : ∃ x, tagN kf g n = x := ⟨_, rfl⟩
  rw [eT]
  have ET := Lib.hid (show tagN kf g (T np) = T_ by rw [EN.out]; exact eT)
  clear eT
  have hB1 := Below.go hB0 hb
  have hst := store_nums (P := Try.prog) (n := 16) .u8 (byt T_) HR.out rfl
  have HR1 := Lib.hid (Own.store (vs := nums .u8 (byt T_) 16) HR.out rfl)
  have hB2 := Below.setCells hB1 Rw (nums .u8 (byt T_) 16) 0
  go_wp2_with (fail)
  have hL := run_loadVar_mid (P := Try.prog) _ R 0 29 (nums .u8 (byt T_) 16) _ HR1.out.cell Try.underlying29 rfl (by kernel_rfl)
  exact bodyPost_ret (v := .agg (nums .u8 (byt T_) 16).toArray) (res_cell Try.results15 rfl hL) rfl ⟨by rw [ET.out], hB2⟩
end Go.Proofs.Ytbofihejegbfhaa
