/- ManifestBack: the walk where both manifests may be; the law. -/
import Derived.Test.YtapkhecebglnlaaDoorGQ
import Derived.Test.YtapkhecebglnlaaDoorGO
import Derived.Test.YtapkhecebglnlaaDoorGG
import Derived.Test.YtapkhecebglnlaaDoorGE
import Derived.Test.YtapkhecebglnlaaDoorGS
import Derived.Lib.Hide
import Derived.LoopN
import Derived.LoopTactic
import Derived.Deep.Onto
import Derived.Deep.RegionHeld3
import Derived.Deep.QuietTactic
import Derived.BigQuiet
namespace Go.Proofs.YtapkhecebglnlaaDoor
set_option linter.unusedVariables false
set_option maxRecDepth 2000
set_option linter.unusedSimpArgs false
open Go.RowKit
set_option maxHeartbeats 16000000 in
theorem MBack_two (mi mk ml : Int) (mg : Nat → Int) (mf mt ms mc : Int) (ni nk nl : Int) (ng : Nat → Int) (nf nt ns nc : Int) (IM : InM mi mk ml mg mf mt ms mc) (IN : InM ni nk nl ng nf nt ns nc) (w : World) (hg : Has 0 0 CapL w) (hz : checkF mk mg mf mt ms mc = 0) (hy : checkF nk ng nf nt ns nc = 0) :
    Calls Tryd.prog 6 #[(.agg #[.int .u64 mi, .int .i64 mk, .int .u32 ml, .int .u8 (mg 0), .int .u8 (mg 1), .int .u8 (mg 2), .int .u8 (mg 3), .int .u8 (mg 4), .int .u8 (mg 5), .int .u8 (mg 6), .int .u8 (mg 7), .int .u32 mf, .int .u32 mt, .int .i64 ms, .int .i64 mc]), .agg #[.int .u64 ni, .int .i64 nk, .int .u32 nl, .int .u8 (ng 0), .int .u8 (ng 1), .int .u8 (ng 2), .int .u8 (ng 3), .int .u8 (ng 4), .int .u8 (ng 5), .int .u8 (ng 6), .int .u8 (ng 7), .int .u32 nf, .int .u32 nt, .int .i64 ns, .int .i64 nc]] w fun e w' => e = .returned (.bool true) ∧ Below w.heap.size w w' := by
  have HG := Lib.hid hg
  have FE := Lib.hid (Encode_any mi mk ml mg mf mt ms mc IM.hi IM.hl IM.hg IM.hf IM.ht IM.hs)
  have FN := Lib.hid (Encode_any ni nk nl ng nf nt ns nc IN.hi IN.hl IN.hg IN.hf IN.ht IN.hs)
  have FC := Lib.hid (Check_any mi mk ml mg mf mt ms mc IM.hs)
  have DE := Lib.hid (fun hz q c w hg hq => Decode_enc mi mk ml mg mf mt ms mc IM hz q c w hg hq)
  have IJ := Lib.hid (fun hz hz2 => enc_inj mi mk ml mg mf mt ms mc ni nk nl ng nf nt ns nc IM IN hz hz2)
  have I1 := Lib.hid (fun (l j : Nat) (_ : j < l) => in_encF mi mk ml mg mf mt ms mc j)
  have I2 := Lib.hid (fun (l j : Nat) (_ : j < l) => in_encF ni nk nl ng nf nt ns nc j)
  have EQ := Lib.hid (eqM mi mk ml mg mf mt ms mc ni nk nl ng nf nt ns nc)
  have NE := Lib.hid (neqM mi mk ml mg mf mt ms mc mi mk ml mg mf mt ms mc)
  rw [manB_self] at NE
  have VY := Lib.hid (check_vals nk ng nf nt ns nc)
  clear IM IN hg
  generalize manB mi mk ml mg mf mt ms mc ni nk nl ng nf nt ns nc = mb at *
  generalize checkF mk mg mf mt ms mc = z at *
  generalize checkF nk ng nf nt ns nc = y at *
  generalize encF mi mk ml mg mf mt ms mc = E at *
  generalize encF ni nk nl ng nf nt ns nc = E2 at *
  subst hz
  rw [show encL 0 = 35 from rfl] at FE
  clear FC
  go_enter Tryd.func6, Tryd.ntmps6
  go_upto_region 1 with fail
  obtain ⟨W0, hW⟩ : ∃ W0, W0 = ((w.alloc (.cells #[.int .u64 mi, .int .i64 mk, .int .u32 ml, .int .u8 (mg 0), .int .u8 (mg 1), .int .u8 (mg 2), .int .u8 (mg 3), .int .u8 (mg 4), .int .u8 (mg 5), .int .u8 (mg 6), .int .u8 (mg 7), .int .u32 mf, .int .u32 mt, .int .i64 ms, .int .i64 mc] 26)).alloc (.cells #[.int .u64 ni, .int .i64 nk, .int .u32 nl, .int .u8 (ng 0), .int .u8 (ng 1), .int .u8 (ng 2), .int .u8 (ng 3), .int .u8 (ng 4), .int .u8 (ng 5), .int .u8 (ng 6), .int .u8 (ng 7), .int .u32 nf, .int .u32 nt, .int .i64 ns, .int .i64 nc] 26)) := ⟨_, rfl⟩
  have hB0 : Below w.heap.size w W0 := hW ▸ (Below.al (Below.al (Below.refl _ _)))
  have HA : Hid (Own w.heap.size [.int .u64 mi, .int .i64 mk, .int .u32 ml, .int .u8 (mg 0), .int .u8 (mg 1), .int .u8 (mg 2), .int .u8 (mg 3), .int .u8 (mg 4), .int .u8 (mg 5), .int .u8 (mg 6), .int .u8 (mg 7), .int .u32 mf, .int .u32 mt, .int .i64 ms, .int .i64 mc] W0) := Lib.hid (hW ▸ (Own.newAt (by simp)).alloc)
  have HB : Hid (Own (w.heap.size + 1) [.int .u64 ni, .int .i64 nk, .int .u32 nl, .int .u8 (ng 0), .int .u8 (ng 1), .int .u8 (ng 2), .int .u8 (ng 3), .int .u8 (ng 4), .int .u8 (ng 5), .int .u8 (ng 6), .int .u8 (ng 7), .int .u32 nf, .int .u32 nt, .int .i64 ns, .int .i64 nc] W0) := Lib.hid (hW ▸ (Own.newAt (by simp)))
  rw [← hW]
  clear hW
  obtain ⟨B, eB⟩ : ∃ X, X = (w.heap.size + 1) := ⟨_, rfl⟩
  rw [← eB] at HB ⊢
  have Bw : w.heap.size ≤ B := by omega
  obtain ⟨A, eA⟩ : ∃ X, X = w.heap.size := ⟨_, rfl⟩
  rw [← eA] at HA ⊢
  have Aw : w.heap.size ≤ A := by omega
  have nAB : A ≠ B := by omega
  have nBA : B ≠ A := by omega
  clear eA eB
  have HB0 := Lib.hid hB0
  have HG0 := Lib.hid (HG.out.later hB0)
  clear hB0 HG
  have oA := HA.out
  have A0 := oA.at 0 _ rfl
  have A1 := oA.at 1 _ rfl
  have A2 := oA.at 2 _ rfl
  have A3 := oA.at 3 _ rfl
  have A4 := oA.at 4 _ rfl
  have A5 := oA.at 5 _ rfl
  have A6 := oA.at 6 _ rfl
  have A7 := oA.at 7 _ rfl
  have A8 := oA.at 8 _ rfl
  have A9 := oA.at 9 _ rfl
  have A10 := oA.at 10 _ rfl
  have A11 := oA.at 11 _ rfl
  have A12 := oA.at 12 _ rfl
  have A13 := oA.at 13 _ rfl
  have A14 := oA.at 14 _ rfl
  have Al := oA.lt
  clear oA
  go_wp2_with (fail)
  go_at_call 15
  refine (FE.out _ HG0.out).mono ?_
  rintro e w1 ⟨v, rfl, hr, hb⟩
  obtain ⟨q, c, rfl, hnc, hcx, hby⟩ := hr
  have HG1 := Lib.hid (HG0.out.later hb)
  have HA1 := Lib.hid (HA.out.later hb)
  have HN1 := Lib.hid (HB.out.later hb)
  have hB1 := Below.go HB0.out hb
  have BY1 := Lib.hid hby
  clear hb hnc hcx hby HG0 HA HB HB0 FE A0 A1 A2 A3 A4 A5 A6 A7 A8 A9 A10 A11 A12 A13 A14 Al
  have D1 := Lib.hid (DE.out (by first | exact rfl | trivial) q c)
  clear DE
  go_wp2_with (fail)
  go_at_call 18
  refine (D1.out _ HG1.out BY1.out).mono ?_
  rintro e w2 ⟨rfl, hb⟩
  have HG2 := Lib.hid (HG1.out.later hb)
  have HA2 := Lib.hid (HA1.out.later hb)
  have HN2 := Lib.hid (HN1.out.later hb)
  have BY2 := Lib.hid (BY1.out.later hb)
  have hB2 := Below.go hB1 hb
  clear hb HG1 HA1 HN1 hB1 BY1 D1
  go_upto_region 5 with fail
  obtain ⟨w3, hW⟩ : ∃ w3, w3 = (w2.alloc (.cells #[.int .u64 mi, .int .i64 mk, .int .u32 ml, .int .u8 (mg 0), .int .u8 (mg 1), .int .u8 (mg 2), .int .u8 (mg 3), .int .u8 (mg 4), .int .u8 (mg 5), .int .u8 (mg 6), .int .u8 (mg 7), .int .u32 mf, .int .u32 mt, .int .i64 ms, .int .i64 mc] 26)) := ⟨_, rfl⟩
  have hBx : Below w2.heap.size w2 w3 := hW ▸ (Below.al (Below.refl _ _))
  have HX : Hid (Own w2.heap.size ([.int .u64 mi, .int .i64 mk, .int .u32 ml, .int .u8 (mg 0), .int .u8 (mg 1), .int .u8 (mg 2), .int .u8 (mg 3), .int .u8 (mg 4), .int .u8 (mg 5), .int .u8 (mg 6), .int .u8 (mg 7), .int .u32 mf, .int .u32 mt, .int .i64 ms, .int .i64 mc]) w3) := Lib.hid (hW ▸ (show Own w2.heap.size ([.int .u64 mi, .int .i64 mk, .int .u32 ml, .int .u8 (mg 0), .int .u8 (mg 1), .int .u8 (mg 2), .int .u8 (mg 3), .int .u8 (mg 4), .int .u8 (mg 5), .int .u8 (mg 6), .int .u8 (mg 7), .int .u32 mf, .int .u32 mt, .int .i64 ms, .int .i64 mc]) (w2.alloc (.cells #[.int .u64 mi, .int .i64 mk, .int .u32 ml, .int .u8 (mg 0), .int .u8 (mg 1), .int .u8 (mg 2), .int .u8 (mg 3), .int .u8 (mg 4), .int .u8 (mg 5), .int .u8 (mg 6), .int .u8 (mg 7), .int .u32 mf, .int .u32 mt, .int .i64 ms, .int .i64 mc] 26)) from Own.newAt (by simp)))
  rw [← hW]
  clear hW
  obtain ⟨X, eX⟩ : ∃ X, X = w2.heap.size := ⟨_, rfl⟩
  rw [← eX] at HX ⊢
  have Xw : w2.heap.size ≤ X := by omega
  clear eX
  have nXA : X ≠ A := by have := HA2.out.lt; omega
  have nAX : A ≠ X := Ne.symm nXA
  have nXB : X ≠ B := by have := HN2.out.lt; omega
  have nBX : B ≠ X := Ne.symm nXB
  have Xw2 : w.heap.size ≤ X := by have := hB2.size; omega
  clear Xw
  have Xw := Xw2
  clear Xw2
  have HA2k := Lib.hid (HA2.out.later hBx)
  have HN2k := Lib.hid (HN2.out.later hBx)
  clear HA2 HN2
  have HA2 := HA2k
  clear HA2k
  have HN2 := HN2k
  clear HN2k
  have HG3 := Lib.hid (HG2.out.later hBx)
  have BY3 := Lib.hid (BY2.out.later hBx)
  have hB2n := Below.go hB2 hBx
  clear hB2 hBx
  have hB2 := hB2n
  clear hB2n
  have HB3 := Lib.hid hB2
  clear HG2 BY2 hB2
  have oA := HA2.out
  have A0 := oA.at 0 _ rfl
  have A1 := oA.at 1 _ rfl
  have A2 := oA.at 2 _ rfl
  have A3 := oA.at 3 _ rfl
  have A4 := oA.at 4 _ rfl
  have A5 := oA.at 5 _ rfl
  have A6 := oA.at 6 _ rfl
  have A7 := oA.at 7 _ rfl
  have A8 := oA.at 8 _ rfl
  have A9 := oA.at 9 _ rfl
  have A10 := oA.at 10 _ rfl
  have A11 := oA.at 11 _ rfl
  have A12 := oA.at 12 _ rfl
  have A13 := oA.at 13 _ rfl
  have A14 := oA.at 14 _ rfl
  have Al := oA.lt
  clear oA
  have oX := HX.out
  have X0 := oX.at 0 _ rfl
  have X1 := oX.at 1 _ rfl
  have X2 := oX.at 2 _ rfl
  have X3 := oX.at 3 _ rfl
  have X4 := oX.at 4 _ rfl
  have X5 := oX.at 5 _ rfl
  have X6 := oX.at 6 _ rfl
  have X7 := oX.at 7 _ rfl
  have X8 := oX.at 8 _ rfl
  have X9 := oX.at 9 _ rfl
  have X10 := oX.at 10 _ rfl
  have X11 := oX.at 11 _ rfl
  have X12 := oX.at 12 _ rfl
  have X13 := oX.at 13 _ rfl
  have X14 := oX.at 14 _ rfl
  have Xl := oX.lt
  clear oX
  have ne := NE.out
  go_wp2_with (fail)
  go_at_call 20
  refine (Length_any _).mono ?_
  rintro e w4 ⟨rfl, hw⟩
  obtain rfl : w3 = w4 := hw.symm
  clear hw ne NE HX A0 A1 A2 A3 A4 A5 A6 A7 A8 A9 A10 A11 A12 A13 A14 Al X0 X1 X2 X3 X4 X5 X6 X7 X8 X9 X10 X11 X12 X13 X14 Xl
  have oB := HN2.out
  have B0 := oB.at 0 _ rfl
  have B1 := oB.at 1 _ rfl
  have B2 := oB.at 2 _ rfl
  have B3 := oB.at 3 _ rfl
  have B4 := oB.at 4 _ rfl
  have B5 := oB.at 5 _ rfl
  have B6 := oB.at 6 _ rfl
  have B7 := oB.at 7 _ rfl
  have B8 := oB.at 8 _ rfl
  have B9 := oB.at 9 _ rfl
  have B10 := oB.at 10 _ rfl
  have B11 := oB.at 11 _ rfl
  have B12 := oB.at 12 _ rfl
  have B13 := oB.at 13 _ rfl
  have B14 := oB.at 14 _ rfl
  have Bl := oB.lt
  clear oB
  go_wp2_with (fail)
  go_at_call 15
  refine (FN.out _ HG3.out).mono ?_
  rintro e w5 ⟨v, rfl, hr, hb⟩
  obtain ⟨q2, c2, rfl, hnc, hcx, hby⟩ := hr
  have HG5 := Lib.hid (HG3.out.later hb)
  have HA5 := Lib.hid (HA2.out.later hb)
  have HN5 := Lib.hid (HN2.out.later hb)
  have BY5 := Lib.hid (BY3.out.later hb)
  have HB5 := Lib.hid (Below.go HB3.out hb)
  have BZ5 := Lib.hid hby
  clear hb hnc hcx hby HG3 HA2 HN2 HB3 BY3 FN B0 B1 B2 B3 B4 B5 B6 B7 B8 B9 B10 B11 B12 B13 B14 Bl
  have hBd : Below w5.heap.size w5 w5.drew := (Below.refl _ _).drew
  subst hy
  have MB := Lib.hid (IJ.out (by first | exact rfl | trivial) (by first | exact rfl | trivial))
  rw [show encL 0 = 35 from rfl] at BZ5 ⊢
  have eq := EQ.out
  have QL := Lib.hid (fun w h1 h2 => EqualG_any q q2 35 c c2 E E2 (I1.out 35) (I2.out 35) w h1 h2)
  rw [MB.out] at QL
  clear MB IJ EQ I1 I2
  have SH : Hid (∀ w', Below w5.heap.size w5 w' → w'.cell? ⟨A, 0, none⟩ = some (.int .u64 mi) ∧ w'.cell? ⟨A, 1, none⟩ = some (.int .i64 mk) ∧ w'.cell? ⟨A, 2, none⟩ = some (.int .u32 ml) ∧ w'.cell? ⟨A, 3, none⟩ = some (.int .u8 (mg 0)) ∧ w'.cell? ⟨A, 4, none⟩ = some (.int .u8 (mg 1)) ∧ w'.cell? ⟨A, 5, none⟩ = some (.int .u8 (mg 2)) ∧ w'.cell? ⟨A, 6, none⟩ = some (.int .u8 (mg 3)) ∧ w'.cell? ⟨A, 7, none⟩ = some (.int .u8 (mg 4)) ∧ w'.cell? ⟨A, 8, none⟩ = some (.int .u8 (mg 5)) ∧ w'.cell? ⟨A, 9, none⟩ = some (.int .u8 (mg 6)) ∧ w'.cell? ⟨A, 10, none⟩ = some (.int .u8 (mg 7)) ∧ w'.cell? ⟨A, 11, none⟩ = some (.int .u32 mf) ∧ w'.cell? ⟨A, 12, none⟩ = some (.int .u32 mt) ∧ w'.cell? ⟨A, 13, none⟩ = some (.int .i64 ms) ∧ w'.cell? ⟨A, 14, none⟩ = some (.int .i64 mc) ∧ w'.cell? ⟨B, 0, none⟩ = some (.int .u64 ni) ∧ w'.cell? ⟨B, 1, none⟩ = some (.int .i64 nk) ∧ w'.cell? ⟨B, 2, none⟩ = some (.int .u32 nl) ∧ w'.cell? ⟨B, 3, none⟩ = some (.int .u8 (ng 0)) ∧ w'.cell? ⟨B, 4, none⟩ = some (.int .u8 (ng 1)) ∧ w'.cell? ⟨B, 5, none⟩ = some (.int .u8 (ng 2)) ∧ w'.cell? ⟨B, 6, none⟩ = some (.int .u8 (ng 3)) ∧ w'.cell? ⟨B, 7, none⟩ = some (.int .u8 (ng 4)) ∧ w'.cell? ⟨B, 8, none⟩ = some (.int .u8 (ng 5)) ∧ w'.cell? ⟨B, 9, none⟩ = some (.int .u8 (ng 6)) ∧ w'.cell? ⟨B, 10, none⟩ = some (.int .u8 (ng 7)) ∧ w'.cell? ⟨B, 11, none⟩ = some (.int .u32 nf) ∧ w'.cell? ⟨B, 12, none⟩ = some (.int .u32 nt) ∧ w'.cell? ⟨B, 13, none⟩ = some (.int .i64 ns) ∧ w'.cell? ⟨B, 14, none⟩ = some (.int .i64 nc)) := Lib.hid fun w' hb => ⟨(HA5.out.later hb).at 0 _ rfl, (HA5.out.later hb).at 1 _ rfl, (HA5.out.later hb).at 2 _ rfl, (HA5.out.later hb).at 3 _ rfl, (HA5.out.later hb).at 4 _ rfl, (HA5.out.later hb).at 5 _ rfl, (HA5.out.later hb).at 6 _ rfl, (HA5.out.later hb).at 7 _ rfl, (HA5.out.later hb).at 8 _ rfl, (HA5.out.later hb).at 9 _ rfl, (HA5.out.later hb).at 10 _ rfl, (HA5.out.later hb).at 11 _ rfl, (HA5.out.later hb).at 12 _ rfl, (HA5.out.later hb).at 13 _ rfl, (HA5.out.later hb).at 14 _ rfl, (HN5.out.later hb).at 0 _ rfl, (HN5.out.later hb).at 1 _ rfl, (HN5.out.later hb).at 2 _ rfl, (HN5.out.later hb).at 3 _ rfl, (HN5.out.later hb).at 4 _ rfl, (HN5.out.later hb).at 5 _ rfl, (HN5.out.later hb).at 6 _ rfl, (HN5.out.later hb).at 7 _ rfl, (HN5.out.later hb).at 8 _ rfl, (HN5.out.later hb).at 9 _ rfl, (HN5.out.later hb).at 10 _ rfl, (HN5.out.later hb).at 11 _ rfl, (HN5.out.later hb).at 12 _ rfl, (HN5.out.later hb).at 13 _ rfl, (HN5.out.later hb).at 14 _ rfl⟩
  have Al := HA5.out.lt
  have Bl := HN5.out.lt
  go_upto_region 8 with fail
  go_region_held3 (fun w' => w'.cell? ⟨A, 0, none⟩ = some (.int .u64 mi) ∧ w'.cell? ⟨A, 1, none⟩ = some (.int .i64 mk) ∧ w'.cell? ⟨A, 2, none⟩ = some (.int .u32 ml) ∧ w'.cell? ⟨A, 3, none⟩ = some (.int .u8 (mg 0)) ∧ w'.cell? ⟨A, 4, none⟩ = some (.int .u8 (mg 1)) ∧ w'.cell? ⟨A, 5, none⟩ = some (.int .u8 (mg 2)) ∧ w'.cell? ⟨A, 6, none⟩ = some (.int .u8 (mg 3)) ∧ w'.cell? ⟨A, 7, none⟩ = some (.int .u8 (mg 4)) ∧ w'.cell? ⟨A, 8, none⟩ = some (.int .u8 (mg 5)) ∧ w'.cell? ⟨A, 9, none⟩ = some (.int .u8 (mg 6)) ∧ w'.cell? ⟨A, 10, none⟩ = some (.int .u8 (mg 7)) ∧ w'.cell? ⟨A, 11, none⟩ = some (.int .u32 mf) ∧ w'.cell? ⟨A, 12, none⟩ = some (.int .u32 mt) ∧ w'.cell? ⟨A, 13, none⟩ = some (.int .i64 ms) ∧ w'.cell? ⟨A, 14, none⟩ = some (.int .i64 mc) ∧ w'.cell? ⟨B, 0, none⟩ = some (.int .u64 ni) ∧ w'.cell? ⟨B, 1, none⟩ = some (.int .i64 nk) ∧ w'.cell? ⟨B, 2, none⟩ = some (.int .u32 nl) ∧ w'.cell? ⟨B, 3, none⟩ = some (.int .u8 (ng 0)) ∧ w'.cell? ⟨B, 4, none⟩ = some (.int .u8 (ng 1)) ∧ w'.cell? ⟨B, 5, none⟩ = some (.int .u8 (ng 2)) ∧ w'.cell? ⟨B, 6, none⟩ = some (.int .u8 (ng 3)) ∧ w'.cell? ⟨B, 7, none⟩ = some (.int .u8 (ng 4)) ∧ w'.cell? ⟨B, 8, none⟩ = some (.int .u8 (ng 5)) ∧ w'.cell? ⟨B, 9, none⟩ = some (.int .u8 (ng 6)) ∧ w'.cell? ⟨B, 10, none⟩ = some (.int .u8 (ng 7)) ∧ w'.cell? ⟨B, 11, none⟩ = some (.int .u32 nf) ∧ w'.cell? ⟨B, 12, none⟩ = some (.int .u32 nt) ∧ w'.cell? ⟨B, 13, none⟩ = some (.int .i64 ns) ∧ w'.cell? ⟨B, 14, none⟩ = some (.int .i64 nc)) (first | exact SH.out _ (by assumption)) (first | (go_at_call 17; (with_reducible refine (QL.out _ (BY5.out.later hBd) (BZ5.out.later hBd)).mono ?_); rintro e y1 ⟨rfl, h1⟩; have b1 : Below w5.heap.size w5 y1 := Below.go hBd h1; clear h1) | (go_at_call 14; (with_reducible refine (works12_any _ (HG5.out.later b1)).mono ?_); rintro e y2 ⟨rfl, h1⟩; have b2 : Below w5.heap.size w5 y2 := Below.go b1 h1; clear h1))
  go_wp2_with (fail)
  go_ret
  exact ⟨rfl, Below.go HB5.out b2⟩
set_option maxHeartbeats 16000000 in
theorem MBack_law (mi mk ml : Int) (mg : Nat → Int) (mf mt ms mc : Int) (ni nk nl : Int) (ng : Nat → Int) (nf nt ns nc : Int) (IM : InM mi mk ml mg mf mt ms mc) (IN : InM ni nk nl ng nf nt ns nc) (w : World) (hg : Has 0 0 CapL w) :
    Calls Tryd.prog 6 #[(.agg #[.int .u64 mi, .int .i64 mk, .int .u32 ml, .int .u8 (mg 0), .int .u8 (mg 1), .int .u8 (mg 2), .int .u8 (mg 3), .int .u8 (mg 4), .int .u8 (mg 5), .int .u8 (mg 6), .int .u8 (mg 7), .int .u32 mf, .int .u32 mt, .int .i64 ms, .int .i64 mc]), .agg #[.int .u64 ni, .int .i64 nk, .int .u32 nl, .int .u8 (ng 0), .int .u8 (ng 1), .int .u8 (ng 2), .int .u8 (ng 3), .int .u8 (ng 4), .int .u8 (ng 5), .int .u8 (ng 6), .int .u8 (ng 7), .int .u32 nf, .int .u32 nt, .int .i64 ns, .int .i64 nc]] w fun e w' => e = .returned (.bool true) ∧ Below w.heap.size w w' := by
  by_cases hz : checkF mk mg mf mt ms mc = 0
  · by_cases hy : checkF nk ng nf nt ns nc = 0
    · exact MBack_two mi mk ml mg mf mt ms mc ni nk nl ng nf nt ns nc IM IN w hg hz hy
    · exact MBack_one mi mk ml mg mf mt ms mc ni nk nl ng nf nt ns nc IM IN w hg hz hy
  · exact MBack_no mi mk ml mg mf mt ms mc ni nk nl ng nf nt ns nc IM IN w hg hz
end Go.Proofs.YtapkhecebglnlaaDoor
