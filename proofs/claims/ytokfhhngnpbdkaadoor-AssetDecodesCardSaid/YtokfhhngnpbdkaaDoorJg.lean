/- asset: the document's Decode of materials, lights, and of all kinds. -/
import Derived.Test.YtokfhhngnpbdkaaDoorJf
import Derived.Lib.Hide
import Derived.LoopN
import Derived.LoopTactic
import Derived.Deep.Onto
import Derived.Deep.RegionHeld3
import Derived.Deep.QuietTactic
import Derived.BigQuiet
import Derived.Great.BuildSlice
import Derived.StillTailTactics
import Derived.Lib.SliceRun
import Derived.OrdersHeld
namespace Go.Proofs.YtokfhhngnpbdkaaDoor
set_option linter.unusedVariables false
set_option maxRecDepth 2000
set_option linter.unusedSimpArgs false
open Go.RowKit
set_option maxHeartbeats 16000000 in
theorem RDec_3 (F : Nat → Int) (q : Option Addr) (N c : Nat) (hF : ∀ j, j < N → inB (F j)) (hNc : N ≤ c) (hcx : c ≤ 9223372036854775807) (hN : N ≤ 900) (w : World) (hq : Byt w q N F) :
    Calls Tryd.prog 20 #[.int .i64 3, .slice q N c] w fun e w' => (∃ A, e = .returned (.tuple #[(.agg #[.int .i64 A.k, .slice A.M.qv A.M.nv A.M.cv, .slice A.M.qu A.M.nu A.M.cu, .slice A.M.qt A.M.nt A.M.ct, .int .i64 A.X.S, .slice A.X.q A.X.n A.X.c, .int .i64 (A.g 0), .int .i64 (A.g 1), .int .i64 (A.g 2), .int .i64 (A.g 3), .int .i64 (A.g 4), .int .i64 (A.l 0), .int .i64 (A.l 1), .int .i64 (A.l 2), .int .i64 (A.l 3), .int .i64 (A.l 4), .int .i64 (A.l 5), .int .i64 (A.l 6), .int .i64 (A.l 7), .int .i64 (A.l 8), .int .i64 (A.l 9), .int .i64 (A.l 10), .int .i64 (A.l 11), .int .i64 (A.l 12)]), .int .i64 (decEA 3 F N)]) ∧ AstAt A w' ∧ FewA A ∧ (decEA 3 F N = 0 → EqA A (decA 3 F N)) ∧ (decEA 3 F N ≠ 0 → EqA A (kinA 0))) ∧ Below w.heap.size w w' := by
  have HQ := Lib.hid hq
  have HQL : Hid (∀ b off, N ≠ 0 → q = some ⟨b, off, none⟩ → b < w.heap.size) := Lib.hid (fun b off hn e => by
    rcases hq with h | ⟨b2, o2, e1, e2⟩
    · exact absurd h hn
    · rw [e] at e1; cases e1; exact e2.lt)
  have CK := Lib.hid (fun A (hf : FewA A) w h => RACheck_any A hf w h)
  have EZ : Hid (decEA 3 F N = if endE N 9 (erN N 9) = 0 then chkA (decA 3 F N) else endE N 9 (erN N 9)) := Lib.hid rfl
  have HNC := Lib.hid hNc; have HCX := Lib.hid hcx
  have C0 := Lib.hid (fun S D w h (hd : D = S ∨ D < w.heap.size) => RNum_nx (S := S) (D := D) (N := N) (t := 0) (F := F) (w := w) 1 1 1 rfl rfl (by decide) (by decide) hF h)
  have w0 : IntKind.i64.wrap (valN F N 0 1) = valN F N 0 1 := IntWalk.i64_in _ (by
    have a := in_valN hF 0 1
    have b := pw_le4 (W := 1) (by decide)
    omega)
  have C1 := Lib.hid (fun S D w h hd => three_any (K := S) (D := D) (N := N) (t := 1) (F := F) (w := w) 2 (by decide) (by decide) hF h hd)
  have C2 := Lib.hid (fun S D w h (hd : D = S ∨ D < w.heap.size) => RNum_nx (S := S) (D := D) (N := N) (t := 7) (F := F) (w := w) 2 9 2 rfl rfl (by decide) (by decide) hF h)
  have w2 : IntKind.i64.wrap (valN F N 7 2) = valN F N 7 2 := IntWalk.i64_in _ (by
    have a := in_valN hF 7 2
    have b := pw_le4 (W := 2) (by decide)
    omega)
  have E0 := Lib.hid (erN_0 N)
  obtain ⟨z, ez⟩ : ∃ z, endE N 9 (erN N 9) = z := ⟨_, rfl⟩
  have ZE := Lib.hid ez
  rw [ez] at EZ
  obtain ⟨y, ey⟩ : ∃ y, decEA 3 F N = y := ⟨_, rfl⟩
  rw [ey] at EZ ⊢
  clear ey
  clear hF hNc hcx hq hN ez
  go_enter Tryd.func20, Tryd.ntmps20
  go_upto_region 1 with fail
  obtain ⟨W0, hW⟩ : ∃ W0, W0 = (w.alloc (.cells #[.int .i64 0, .slice none 0 0, .slice none 0 0, .slice none 0 0, .int .i64 0, .slice none 0 0, .int .i64 0, .int .i64 0, .int .i64 0, .int .i64 0, .int .i64 0, .int .i64 0, .int .i64 0, .int .i64 0, .int .i64 0, .int .i64 0, .int .i64 0, .int .i64 0, .int .i64 0, .int .i64 0, .int .i64 0, .int .i64 0, .int .i64 0, .int .i64 0] 37)) := ⟨_, rfl⟩
  have hB0 : Below w.heap.size w W0 := hW ▸ (Below.al (Below.refl _ _))
  have HR : Hid (Own w.heap.size ([.int .i64 0, .slice none 0 0, .slice none 0 0, .slice none 0 0, .int .i64 0, .slice none 0 0, .int .i64 0, .int .i64 0, .int .i64 0, .int .i64 0, .int .i64 0, .int .i64 0, .int .i64 0, .int .i64 0, .int .i64 0, .int .i64 0, .int .i64 0, .int .i64 0, .int .i64 0, .int .i64 0, .int .i64 0, .int .i64 0, .int .i64 0, .int .i64 0]) W0) := Lib.hid (hW ▸ (show Own w.heap.size ([.int .i64 0, .slice none 0 0, .slice none 0 0, .slice none 0 0, .int .i64 0, .slice none 0 0, .int .i64 0, .int .i64 0, .int .i64 0, .int .i64 0, .int .i64 0, .int .i64 0, .int .i64 0, .int .i64 0, .int .i64 0, .int .i64 0, .int .i64 0, .int .i64 0, .int .i64 0, .int .i64 0, .int .i64 0, .int .i64 0, .int .i64 0, .int .i64 0]) (w.alloc (.cells #[.int .i64 0, .slice none 0 0, .slice none 0 0, .slice none 0 0, .int .i64 0, .slice none 0 0, .int .i64 0, .int .i64 0, .int .i64 0, .int .i64 0, .int .i64 0, .int .i64 0, .int .i64 0, .int .i64 0, .int .i64 0, .int .i64 0, .int .i64 0, .int .i64 0, .int .i64 0, .int .i64 0, .int .i64 0, .int .i64 0, .int .i64 0, .int .i64 0] 37)) from Own.newAt (by simp)))
  rw [← hW]
  clear hW
  obtain ⟨R, eR⟩ : ∃ X, X = w.heap.size := ⟨_, rfl⟩
  rw [← eR] at HR ⊢
  have Rw : w.heap.size ≤ R := by omega
  clear eR
  have HQ0 := Lib.hid (HQ.out.later hB0)
  have HB := Lib.hid hB0
  clear HQ hB0
  go_upto_region 2 with (refine wpList_store_mid rfl 37 _ _ rfl _ 0 #[.int .i64 3, .slice none 0 0, .slice none 0 0, .slice none 0 0, .int .i64 0, .slice none 0 0, .int .i64 0, .int .i64 0, .int .i64 0, .int .i64 0, .int .i64 0, .int .i64 0, .int .i64 0, .int .i64 0, .int .i64 0, .int .i64 0, .int .i64 0, .int .i64 0, .int .i64 0, .int .i64 0, .int .i64 0, .int .i64 0, .int .i64 0, .int .i64 0] rfl rfl (there_newn (cs := [.int .i64 0, .slice none 0 0, .slice none 0 0, .slice none 0 0, .int .i64 0, .slice none 0 0, .int .i64 0, .int .i64 0, .int .i64 0, .int .i64 0, .int .i64 0, .int .i64 0, .int .i64 0, .int .i64 0, .int .i64 0, .int .i64 0, .int .i64 0, .int .i64 0, .int .i64 0, .int .i64 0, .int .i64 0, .int .i64 0, .int .i64 0, .int .i64 0]) (by simp)) (by kernel_rfl) (by simp [Value.oneCell']) ?_; (obtain ⟨W2, hW2⟩ : ∃ W, W = (W0.alloc (.cells #[.int .i64 0, .slice none 0 0, .slice none 0 0, .slice none 0 0, .int .i64 0, .slice none 0 0, .int .i64 0, .int .i64 0, .int .i64 0, .int .i64 0, .int .i64 0, .int .i64 0, .int .i64 0, .int .i64 0, .int .i64 0, .int .i64 0, .int .i64 0, .int .i64 0, .int .i64 0, .int .i64 0, .int .i64 0, .int .i64 0, .int .i64 0, .int .i64 0] 37)).setCells W0.heap.size 0 ([.int .i64 3, .slice none 0 0, .slice none 0 0, .slice none 0 0, .int .i64 0, .slice none 0 0, .int .i64 0, .int .i64 0, .int .i64 0, .int .i64 0, .int .i64 0, .int .i64 0, .int .i64 0, .int .i64 0, .int .i64 0, .int .i64 0, .int .i64 0, .int .i64 0, .int .i64 0, .int .i64 0, .int .i64 0, .int .i64 0, .int .i64 0, .int .i64 0]) := ⟨_, rfl⟩); have hbx : Below W0.heap.size W0 W2 := hW2 ▸ Below.setCells (Below.al (Below.refl _ _)) (Nat.le_refl _) _ _; have HA : Hid (Own W0.heap.size ([.int .i64 3, .slice none 0 0, .slice none 0 0, .slice none 0 0, .int .i64 0, .slice none 0 0, .int .i64 0, .int .i64 0, .int .i64 0, .int .i64 0, .int .i64 0, .int .i64 0, .int .i64 0, .int .i64 0, .int .i64 0, .int .i64 0, .int .i64 0, .int .i64 0, .int .i64 0, .int .i64 0, .int .i64 0, .int .i64 0, .int .i64 0, .int .i64 0]) W2) := Lib.hid (hW2 ▸ Own.store (Own.new _ [.int .i64 0, .slice none 0 0, .slice none 0 0, .slice none 0 0, .int .i64 0, .slice none 0 0, .int .i64 0, .int .i64 0, .int .i64 0, .int .i64 0, .int .i64 0, .int .i64 0, .int .i64 0, .int .i64 0, .int .i64 0, .int .i64 0, .int .i64 0, .int .i64 0, .int .i64 0, .int .i64 0, .int .i64 0, .int .i64 0, .int .i64 0, .int .i64 0] _) rfl); change wpList _ _ _ _ _ ((W0.alloc (.cells #[.int .i64 0, .slice none 0 0, .slice none 0 0, .slice none 0 0, .int .i64 0, .slice none 0 0, .int .i64 0, .int .i64 0, .int .i64 0, .int .i64 0, .int .i64 0, .int .i64 0, .int .i64 0, .int .i64 0, .int .i64 0, .int .i64 0, .int .i64 0, .int .i64 0, .int .i64 0, .int .i64 0, .int .i64 0, .int .i64 0, .int .i64 0, .int .i64 0] 37)).setCells W0.heap.size 0 ([.int .i64 3, .slice none 0 0, .slice none 0 0, .slice none 0 0, .int .i64 0, .slice none 0 0, .int .i64 0, .int .i64 0, .int .i64 0, .int .i64 0, .int .i64 0, .int .i64 0, .int .i64 0, .int .i64 0, .int .i64 0, .int .i64 0, .int .i64 0, .int .i64 0, .int .i64 0, .int .i64 0, .int .i64 0, .int .i64 0, .int .i64 0, .int .i64 0])); rw [← hW2]; clear hW2)
  have nRQ : R ≠ W0.heap.size := by have := HR.out.lt; omega
  have Qw : w.heap.size ≤ W0.heap.size := HB.out.size
  obtain ⟨Q, eQ⟩ : ∃ X, X = W0.heap.size := ⟨_, rfl⟩
  rw [← eQ] at HA nRQ Qw ⊢
  clear eQ
  have HR2 := Lib.hid (HR.out.later hbx); have HQ2 := Lib.hid (HQ0.out.later hbx); have HB2 := Lib.hid (Below.go HB.out hbx)
  clear HR HQ0 HB hbx
  go_upto_region 3 with fail
  obtain ⟨w3, hW⟩ : ∃ w3, w3 = (W2.alloc (.cells #[.slice q N c, .int .i64 0, .int .i64 0] 77)) := ⟨_, rfl⟩
  have hbx : Below W2.heap.size W2 w3 := hW ▸ (Below.al (Below.refl _ _))
  have HS : Hid (Own W2.heap.size ([.slice q N c, .int .i64 0, .int .i64 0]) w3) := Lib.hid (hW ▸ (show Own W2.heap.size ([.slice q N c, .int .i64 0, .int .i64 0]) (W2.alloc (.cells #[.slice q N c, .int .i64 0, .int .i64 0] 77)) from Own.newAt (by simp)))
  rw [← hW]
  clear hW
  obtain ⟨S, eS⟩ : ∃ X, X = W2.heap.size := ⟨_, rfl⟩
  rw [← eS] at HS ⊢
  have Sw : W2.heap.size ≤ S := by omega
  clear eS
  have HR3 := Lib.hid (HR2.out.later hbx); have HA3 := Lib.hid (HA.out.later hbx); have HQ3 := Lib.hid (HQ2.out.later hbx); have HB3 := Lib.hid (Below.go HB2.out hbx)
  have nRS : R ≠ S := by have := HR2.out.lt; omega
  have nQS : Q ≠ S := by have := HA.out.lt; omega
  clear HR2 HA HQ2 hbx
  have SW : Hid (w.heap.size ≤ S) := Lib.hid (by have := HB2.out.size; omega)
  obtain ⟨D, hD, hbd⟩ : ∃ D, (D = S ∨ D < w.heap.size) ∧ BytD w3 q N F S D := by
    by_cases h0 : N = 0
    · exact ⟨S, .inl rfl, .inl h0⟩
    · obtain ⟨b, off, e1, e2⟩ := HQ3.out.resolve_left h0
      have hb := HQL.out b off h0 e1
      exact ⟨b, .inr hb, .inr ⟨off, e1, by have := SW.out; omega, e2⟩⟩
  have RN0 : Hid (RRn w3 S D F N 0) := Lib.hid ⟨0, ⟨⟨q, c, by rw [E0.out]; exact HS.out, hbd, HNC.out, HCX.out⟩, Nat.zero_le _⟩, fun _ => rfl⟩
  have nDQ : D ≠ Q := by rcases hD with e | e <;> omega
  have HD0 : Hid (D = S ∨ D < w3.heap.size) := Lib.hid (hD.imp id (fun h => Nat.lt_of_lt_of_le h HB3.out.size))
  clear HS hbd hD E0 HQ3 HQL HNC HCX HB2
  have HR0 := HR3; have HA0 := HA3; have HB0 := HB3
  clear HR3 HA3 HB3
  go_wp2_with (fail)
  go_at_call 39
  refine (C0.out S D _ RN0.out HD0.out).mono ?_
  rintro e y0 ⟨rfl, k1, k2⟩
  have HRa := Lib.hid (HR0.out.but k2 nRS); have HAa := Lib.hid (HA0.out.but k2 nQS); have HBa := Lib.hid (HB0.out.trans (k2.below.mono SW.out)); have RNa := Lib.hid k1; have HDa : Hid (D = S ∨ D < y0.heap.size) := Lib.hid (HD0.out.imp id (fun h => Nat.lt_of_lt_of_le h k2.below.size))
  clear k1 k2 HR0 HA0 HB0 RN0 HD0 C0
  have oQ := HAa.out
  have Q6 := oQ.at 6 _ rfl
  have Qf6 := oQ.ok 6 (by simp)
  have Ql := oQ.lt
  clear oQ
  go_upto_region 11 with fail
  clear Q6 Qf6 Ql
  rw [show (y0.setCell ⟨Q, 6, none⟩ (.int .i64 (valN F N 0 1))) = y0.setCells Q 6 [.int .i64 (valN F N 0 1)] from rfl]
  have HA1 : Hid (Own Q ([.int .i64 3, .slice none 0 0, .slice none 0 0, .slice none 0 0, .int .i64 0, .slice none 0 0, .int .i64 (valN F N 0 1), .int .i64 0, .int .i64 0, .int .i64 0, .int .i64 0, .int .i64 0, .int .i64 0, .int .i64 0, .int .i64 0, .int .i64 0, .int .i64 0, .int .i64 0, .int .i64 0, .int .i64 0, .int .i64 0, .int .i64 0, .int .i64 0, .int .i64 0]) (y0.setCells Q 6 [.int .i64 (valN F N 0 1)])) := Lib.hid (show Own Q (over _ 6 [.int .i64 (valN F N 0 1)]) _ from Own.part HAa.out (by simp))
  have HB1 : Hid (Below w.heap.size w (y0.setCells Q 6 [.int .i64 (valN F N 0 1)])) := Lib.hid (Below.setCells HBa.out Qw _ _)
  have HR1 : Hid (Own R [.int .i64 0, .slice none 0 0, .slice none 0 0, .slice none 0 0, .int .i64 0, .slice none 0 0, .int .i64 0, .int .i64 0, .int .i64 0, .int .i64 0, .int .i64 0, .int .i64 0, .int .i64 0, .int .i64 0, .int .i64 0, .int .i64 0, .int .i64 0, .int .i64 0, .int .i64 0, .int .i64 0, .int .i64 0, .int .i64 0, .int .i64 0, .int .i64 0] (y0.setCells Q 6 [.int .i64 (valN F N 0 1)])) := Lib.hid (Own.far HRa.out nRQ)
  have RN1 := Lib.hid (RNa.out.far (But.store (K := Q) (o := 6) (vs := [.int .i64 (valN F N 0 1)])) (Ne.symm nQS) nDQ)
  have HD1 : Hid (D = S ∨ D < (y0.setCells Q 6 [.int .i64 (valN F N 0 1)]).heap.size) := Lib.hid (by rw [size_setCells]; exact HDa.out)
  clear HRa HAa HBa RNa HDa
  generalize y0.setCells Q 6 [.int .i64 (valN F N 0 1)] = z0 at *
  go_wp2_with (fail)
  go_at_call 40
  refine (C1.out S D _ RN1.out HD1.out).mono ?_
  rintro e y1 ⟨rfl, k1, k2⟩
  have HRa := Lib.hid (HR1.out.but k2 nRS); have HAa := Lib.hid (HA1.out.but k2 nQS); have HBa := Lib.hid (HB1.out.trans (k2.below.mono SW.out)); have RNa := Lib.hid k1; have HDa : Hid (D = S ∨ D < y1.heap.size) := Lib.hid (HD1.out.imp id (fun h => Nat.lt_of_lt_of_le h k2.below.size))
  clear k1 k2 HR1 HA1 HB1 RN1 HD1 C1
  have oQ := HAa.out
  have Q7 := oQ.at 7 _ rfl
  have Qf7 := oQ.ok 7 (by simp)
  have Q8 := oQ.at 8 _ rfl
  have Qf8 := oQ.ok 8 (by simp)
  have Q9 := oQ.at 9 _ rfl
  have Qf9 := oQ.ok 9 (by simp)
  have Ql := oQ.lt
  clear oQ
  go_upto_region 12 with fail
  clear Q7 Qf7 Q8 Qf8 Q9 Qf9 Ql
  rw [show (((y1.setCell ⟨Q, 7, none⟩ (.int .i64 (valN F N 1 2))).setCell ⟨Q, 8, none⟩ (.int .i64 (valN F N (1 + 2) 2))).setCell ⟨Q, 9, none⟩ (.int .i64 (valN F N (1 + 2 + 2) 2))) = y1.setCells Q 7 [.int .i64 (valN F N 1 2), .int .i64 (valN F N (1 + 2) 2), .int .i64 (valN F N (1 + 2 + 2) 2)] from rfl]
  have HA2 : Hid (Own Q ([.int .i64 3, .slice none 0 0, .slice none 0 0, .slice none 0 0, .int .i64 0, .slice none 0 0, .int .i64 (valN F N 0 1), .int .i64 (valN F N 1 2), .int .i64 (valN F N (1 + 2) 2), .int .i64 (valN F N (1 + 2 + 2) 2), .int .i64 0, .int .i64 0, .int .i64 0, .int .i64 0, .int .i64 0, .int .i64 0, .int .i64 0, .int .i64 0, .int .i64 0, .int .i64 0, .int .i64 0, .int .i64 0, .int .i64 0, .int .i64 0]) (y1.setCells Q 7 [.int .i64 (valN F N 1 2), .int .i64 (valN F N (1 + 2) 2), .int .i64 (valN F N (1 + 2 + 2) 2)])) := Lib.hid (show Own Q (over _ 7 [.int .i64 (valN F N 1 2), .int .i64 (valN F N (1 + 2) 2), .int .i64 (valN F N (1 + 2 + 2) 2)]) _ from Own.part HAa.out (by simp))
  have HB2 : Hid (Below w.heap.size w (y1.setCells Q 7 [.int .i64 (valN F N 1 2), .int .i64 (valN F N (1 + 2) 2), .int .i64 (valN F N (1 + 2 + 2) 2)])) := Lib.hid (Below.setCells HBa.out Qw _ _)
  have HR2 : Hid (Own R [.int .i64 0, .slice none 0 0, .slice none 0 0, .slice none 0 0, .int .i64 0, .slice none 0 0, .int .i64 0, .int .i64 0, .int .i64 0, .int .i64 0, .int .i64 0, .int .i64 0, .int .i64 0, .int .i64 0, .int .i64 0, .int .i64 0, .int .i64 0, .int .i64 0, .int .i64 0, .int .i64 0, .int .i64 0, .int .i64 0, .int .i64 0, .int .i64 0] (y1.setCells Q 7 [.int .i64 (valN F N 1 2), .int .i64 (valN F N (1 + 2) 2), .int .i64 (valN F N (1 + 2 + 2) 2)])) := Lib.hid (Own.far HRa.out nRQ)
  have RN2 := Lib.hid (RNa.out.far (But.store (K := Q) (o := 7) (vs := [.int .i64 (valN F N 1 2), .int .i64 (valN F N (1 + 2) 2), .int .i64 (valN F N (1 + 2 + 2) 2)])) (Ne.symm nQS) nDQ)
  have HD2 : Hid (D = S ∨ D < (y1.setCells Q 7 [.int .i64 (valN F N 1 2), .int .i64 (valN F N (1 + 2) 2), .int .i64 (valN F N (1 + 2 + 2) 2)]).heap.size) := Lib.hid (by rw [size_setCells]; exact HDa.out)
  clear HRa HAa HBa RNa HDa
  generalize y1.setCells Q 7 [.int .i64 (valN F N 1 2), .int .i64 (valN F N (1 + 2) 2), .int .i64 (valN F N (1 + 2 + 2) 2)] = z1 at *
  go_wp2_with (fail)
  go_at_call 39
  refine (C2.out S D _ RN2.out HD2.out).mono ?_
  rintro e y2 ⟨rfl, k1, k2⟩
  have HRa := Lib.hid (HR2.out.but k2 nRS); have HAa := Lib.hid (HA2.out.but k2 nQS); have HBa := Lib.hid (HB2.out.trans (k2.below.mono SW.out)); have RNa := Lib.hid k1; have HDa : Hid (D = S ∨ D < y2.heap.size) := Lib.hid (HD2.out.imp id (fun h => Nat.lt_of_lt_of_le h k2.below.size))
  clear k1 k2 HR2 HA2 HB2 RN2 HD2 C2
  have oQ := HAa.out
  have Q10 := oQ.at 10 _ rfl
  have Qf10 := oQ.ok 10 (by simp)
  have Ql := oQ.lt
  clear oQ
  go_upto_region 13 with fail
  clear Q10 Qf10 Ql
  rw [show (y2.setCell ⟨Q, 10, none⟩ (.int .i64 (valN F N 7 2))) = y2.setCells Q 10 [.int .i64 (valN F N 7 2)] from rfl]
  have HA3 : Hid (Own Q ([.int .i64 3, .slice none 0 0, .slice none 0 0, .slice none 0 0, .int .i64 0, .slice none 0 0, .int .i64 (valN F N 0 1), .int .i64 (valN F N 1 2), .int .i64 (valN F N (1 + 2) 2), .int .i64 (valN F N (1 + 2 + 2) 2), .int .i64 (valN F N 7 2), .int .i64 0, .int .i64 0, .int .i64 0, .int .i64 0, .int .i64 0, .int .i64 0, .int .i64 0, .int .i64 0, .int .i64 0, .int .i64 0, .int .i64 0, .int .i64 0, .int .i64 0]) (y2.setCells Q 10 [.int .i64 (valN F N 7 2)])) := Lib.hid (show Own Q (over _ 10 [.int .i64 (valN F N 7 2)]) _ from Own.part HAa.out (by simp))
  have HB3 : Hid (Below w.heap.size w (y2.setCells Q 10 [.int .i64 (valN F N 7 2)])) := Lib.hid (Below.setCells HBa.out Qw _ _)
  have HR3 : Hid (Own R [.int .i64 0, .slice none 0 0, .slice none 0 0, .slice none 0 0, .int .i64 0, .slice none 0 0, .int .i64 0, .int .i64 0, .int .i64 0, .int .i64 0, .int .i64 0, .int .i64 0, .int .i64 0, .int .i64 0, .int .i64 0, .int .i64 0, .int .i64 0, .int .i64 0, .int .i64 0, .int .i64 0, .int .i64 0, .int .i64 0, .int .i64 0, .int .i64 0] (y2.setCells Q 10 [.int .i64 (valN F N 7 2)])) := Lib.hid (Own.far HRa.out nRQ)
  have RN3 := Lib.hid (RNa.out.far (But.store (K := Q) (o := 10) (vs := [.int .i64 (valN F N 7 2)])) (Ne.symm nQS) nDQ)
  have HD3 : Hid (D = S ∨ D < (y2.setCells Q 10 [.int .i64 (valN F N 7 2)]).heap.size) := Lib.hid (by rw [size_setCells]; exact HDa.out)
  clear HRa HAa HBa RNa HDa
  generalize y2.setCells Q 10 [.int .i64 (valN F N 7 2)] = z2 at *
  go_wp2_with (fail)
  go_at_call 41
  refine (RREnd_any RN3.out).mono ?_
  rintro e w5 ⟨rfl, hb⟩
  rw [ZE.out]
  have HRe := Lib.hid (HR3.out.later hb); have HAe := Lib.hid (HA3.out.later hb); have HBe := Lib.hid (Below.go HB3.out hb)
  clear hb HR3 HA3 HB3 RN3 HD3 ZE SW
  go_upto_region 21 with fail
  obtain ⟨A, eA⟩ : ∃ A : Ast, A = ⟨3, nilM, nilX, decG F N, fun _ => 0⟩ := ⟨_, rfl⟩
  have FF : Hid (FewA A) := Lib.hid (by rw [eA]; exact ⟨Nat.zero_le _, Nat.zero_le _, Nat.zero_le _, Nat.zero_le _⟩)
  have EE : Hid (z = 0 → EqA A (decA 3 F N)) := Lib.hid (fun hz => by rw [eA]; exact EqA.refl _)
  have AA : Hid (AstAt A w5) := Lib.hid (by rw [eA]; exact ⟨nilM_at _, nilX_at _⟩)
  have LL : Hid (LoneA A) := Lib.hid (by rw [eA]; exact .inr ⟨rfl, rfl, rfl, rfl⟩)
  have HA6 : Hid (Own Q [.int .i64 A.k, .slice A.M.qv A.M.nv A.M.cv, .slice A.M.qu A.M.nu A.M.cu, .slice A.M.qt A.M.nt A.M.ct, .int .i64 A.X.S, .slice A.X.q A.X.n A.X.c, .int .i64 (A.g 0), .int .i64 (A.g 1), .int .i64 (A.g 2), .int .i64 (A.g 3), .int .i64 (A.g 4), .int .i64 (A.l 0), .int .i64 (A.l 1), .int .i64 (A.l 2), .int .i64 (A.l 3), .int .i64 (A.l 4), .int .i64 (A.l 5), .int .i64 (A.l 6), .int .i64 (A.l 7), .int .i64 (A.l 8), .int .i64 (A.l 9), .int .i64 (A.l 10), .int .i64 (A.l 11), .int .i64 (A.l 12)] w5) := Lib.hid (by rw [eA]; exact HAe.out)
  clear HAe eA
  by_cases hz : z = 0
  · subst hz
    have EA_ := Lib.hid (EE.out rfl)
    rw [if_pos rfl, ← chkA_congr EA_.out] at EZ
    go_wp2_with (refine wpList_load_mid rfl 37 _ rfl Q 0 rfl ([.int .i64 A.k, .slice A.M.qv A.M.nv A.M.cv, .slice A.M.qu A.M.nu A.M.cu, .slice A.M.qt A.M.nt A.M.ct, .int .i64 A.X.S, .slice A.X.q A.X.n A.X.c, .int .i64 (A.g 0), .int .i64 (A.g 1), .int .i64 (A.g 2), .int .i64 (A.g 3), .int .i64 (A.g 4), .int .i64 (A.l 0), .int .i64 (A.l 1), .int .i64 (A.l 2), .int .i64 (A.l 3), .int .i64 (A.l 4), .int .i64 (A.l 5), .int .i64 (A.l 6), .int .i64 (A.l 7), .int .i64 (A.l 8), .int .i64 (A.l 9), .int .i64 (A.l 10), .int .i64 (A.l 11), .int .i64 (A.l 12)]) _ HA6.out.cell Tryd.underlying37 rfl (by kernel_rfl) ?_)
    go_at_call 14
    refine (CK.out A FF.out _ AA.out).mono ?_
    rintro e w9 ⟨rfl, hb⟩
    have HR9 := Lib.hid (HRe.out.later hb); have A9 := Lib.hid (AA.out.later hb); have HA9 := Lib.hid (HA6.out.later hb); have hBv := Below.go HBe.out hb
    clear HRe AA HA6 HBe hb CK
    rw [← EZ.out]
    clear EZ
    by_cases hy : y = 0
    · subst hy
      go_wp2_with (first | (refine wpList_load_mid rfl 37 _ rfl Q 0 rfl ([.int .i64 A.k, .slice A.M.qv A.M.nv A.M.cv, .slice A.M.qu A.M.nu A.M.cu, .slice A.M.qt A.M.nt A.M.ct, .int .i64 A.X.S, .slice A.X.q A.X.n A.X.c, .int .i64 (A.g 0), .int .i64 (A.g 1), .int .i64 (A.g 2), .int .i64 (A.g 3), .int .i64 (A.g 4), .int .i64 (A.l 0), .int .i64 (A.l 1), .int .i64 (A.l 2), .int .i64 (A.l 3), .int .i64 (A.l 4), .int .i64 (A.l 5), .int .i64 (A.l 6), .int .i64 (A.l 7), .int .i64 (A.l 8), .int .i64 (A.l 9), .int .i64 (A.l 10), .int .i64 (A.l 11), .int .i64 (A.l 12)]) _ HA9.out.cell Tryd.underlying37 rfl (by kernel_rfl) ?_) | (refine wpList_store_mid rfl 37 _ _ rfl R 0 ([.int .i64 A.k, .slice A.M.qv A.M.nv A.M.cv, .slice A.M.qu A.M.nu A.M.cu, .slice A.M.qt A.M.nt A.M.ct, .int .i64 A.X.S, .slice A.X.q A.X.n A.X.c, .int .i64 (A.g 0), .int .i64 (A.g 1), .int .i64 (A.g 2), .int .i64 (A.g 3), .int .i64 (A.g 4), .int .i64 (A.l 0), .int .i64 (A.l 1), .int .i64 (A.l 2), .int .i64 (A.l 3), .int .i64 (A.l 4), .int .i64 (A.l 5), .int .i64 (A.l 6), .int .i64 (A.l 7), .int .i64 (A.l 8), .int .i64 (A.l 9), .int .i64 (A.l 10), .int .i64 (A.l 11), .int .i64 (A.l 12)]).toArray rfl rfl HR9.out.free (by kernel_rfl) (by simp [Value.oneCell']) ?_; change wpList _ _ _ _ _ (w9.setCells R 0 ([.int .i64 A.k, .slice A.M.qv A.M.nv A.M.cv, .slice A.M.qu A.M.nu A.M.cu, .slice A.M.qt A.M.nt A.M.ct, .int .i64 A.X.S, .slice A.X.q A.X.n A.X.c, .int .i64 (A.g 0), .int .i64 (A.g 1), .int .i64 (A.g 2), .int .i64 (A.g 3), .int .i64 (A.g 4), .int .i64 (A.l 0), .int .i64 (A.l 1), .int .i64 (A.l 2), .int .i64 (A.l 3), .int .i64 (A.l 4), .int .i64 (A.l 5), .int .i64 (A.l 6), .int .i64 (A.l 7), .int .i64 (A.l 8), .int .i64 (A.l 9), .int .i64 (A.l 10), .int .i64 (A.l 11), .int .i64 (A.l 12)])); have HRz : Hid (Own R ([.int .i64 A.k, .slice A.M.qv A.M.nv A.M.cv, .slice A.M.qu A.M.nu A.M.cu, .slice A.M.qt A.M.nt A.M.ct, .int .i64 A.X.S, .slice A.X.q A.X.n A.X.c, .int .i64 (A.g 0), .int .i64 (A.g 1), .int .i64 (A.g 2), .int .i64 (A.g 3), .int .i64 (A.g 4), .int .i64 (A.l 0), .int .i64 (A.l 1), .int .i64 (A.l 2), .int .i64 (A.l 3), .int .i64 (A.l 4), .int .i64 (A.l 5), .int .i64 (A.l 6), .int .i64 (A.l 7), .int .i64 (A.l 8), .int .i64 (A.l 9), .int .i64 (A.l 10), .int .i64 (A.l 11), .int .i64 (A.l 12)]) (w9.setCells R 0 ([.int .i64 A.k, .slice A.M.qv A.M.nv A.M.cv, .slice A.M.qu A.M.nu A.M.cu, .slice A.M.qt A.M.nt A.M.ct, .int .i64 A.X.S, .slice A.X.q A.X.n A.X.c, .int .i64 (A.g 0), .int .i64 (A.g 1), .int .i64 (A.g 2), .int .i64 (A.g 3), .int .i64 (A.g 4), .int .i64 (A.l 0), .int .i64 (A.l 1), .int .i64 (A.l 2), .int .i64 (A.l 3), .int .i64 (A.l 4), .int .i64 (A.l 5), .int .i64 (A.l 6), .int .i64 (A.l 7), .int .i64 (A.l 8), .int .i64 (A.l 9), .int .i64 (A.l 10), .int .i64 (A.l 11), .int .i64 (A.l 12)]))) := Lib.hid (Own.store HR9.out rfl); have hBz : Below w.heap.size w (w9.setCells R 0 ([.int .i64 A.k, .slice A.M.qv A.M.nv A.M.cv, .slice A.M.qu A.M.nu A.M.cu, .slice A.M.qt A.M.nt A.M.ct, .int .i64 A.X.S, .slice A.X.q A.X.n A.X.c, .int .i64 (A.g 0), .int .i64 (A.g 1), .int .i64 (A.g 2), .int .i64 (A.g 3), .int .i64 (A.g 4), .int .i64 (A.l 0), .int .i64 (A.l 1), .int .i64 (A.l 2), .int .i64 (A.l 3), .int .i64 (A.l 4), .int .i64 (A.l 5), .int .i64 (A.l 6), .int .i64 (A.l 7), .int .i64 (A.l 8), .int .i64 (A.l 9), .int .i64 (A.l 10), .int .i64 (A.l 11), .int .i64 (A.l 12)])) := Below.setCells hBv Rw _ _; have Az := Lib.hid (AstAt.put LL.out A9.out HR9.out); generalize w9.setCells R 0 ([.int .i64 A.k, .slice A.M.qv A.M.nv A.M.cv, .slice A.M.qu A.M.nu A.M.cu, .slice A.M.qt A.M.nt A.M.ct, .int .i64 A.X.S, .slice A.X.q A.X.n A.X.c, .int .i64 (A.g 0), .int .i64 (A.g 1), .int .i64 (A.g 2), .int .i64 (A.g 3), .int .i64 (A.g 4), .int .i64 (A.l 0), .int .i64 (A.l 1), .int .i64 (A.l 2), .int .i64 (A.l 3), .int .i64 (A.l 4), .int .i64 (A.l 5), .int .i64 (A.l 6), .int .i64 (A.l 7), .int .i64 (A.l 8), .int .i64 (A.l 9), .int .i64 (A.l 10), .int .i64 (A.l 11), .int .i64 (A.l 12)]) = wz at *))
      have hL := run_loadVar_mid (P := Tryd.prog) _ R 0 37 ([.int .i64 A.k, .slice A.M.qv A.M.nv A.M.cv, .slice A.M.qu A.M.nu A.M.cu, .slice A.M.qt A.M.nt A.M.ct, .int .i64 A.X.S, .slice A.X.q A.X.n A.X.c, .int .i64 (A.g 0), .int .i64 (A.g 1), .int .i64 (A.g 2), .int .i64 (A.g 3), .int .i64 (A.g 4), .int .i64 (A.l 0), .int .i64 (A.l 1), .int .i64 (A.l 2), .int .i64 (A.l 3), .int .i64 (A.l 4), .int .i64 (A.l 5), .int .i64 (A.l 6), .int .i64 (A.l 7), .int .i64 (A.l 8), .int .i64 (A.l 9), .int .i64 (A.l 10), .int .i64 (A.l 11), .int .i64 (A.l 12)]) _ HRz.out.cell Tryd.underlying37 rfl (by kernel_rfl)
      exact bodyPost_ret (v := .tuple #[.agg ([.int .i64 A.k, .slice A.M.qv A.M.nv A.M.cv, .slice A.M.qu A.M.nu A.M.cu, .slice A.M.qt A.M.nt A.M.ct, .int .i64 A.X.S, .slice A.X.q A.X.n A.X.c, .int .i64 (A.g 0), .int .i64 (A.g 1), .int .i64 (A.g 2), .int .i64 (A.g 3), .int .i64 (A.g 4), .int .i64 (A.l 0), .int .i64 (A.l 1), .int .i64 (A.l 2), .int .i64 (A.l 3), .int .i64 (A.l 4), .int .i64 (A.l 5), .int .i64 (A.l 6), .int .i64 (A.l 7), .int .i64 (A.l 8), .int .i64 (A.l 9), .int .i64 (A.l 10), .int .i64 (A.l 11), .int .i64 (A.l 12)]).toArray, .int .i64 0]) (res_two Tryd.results20 rfl hL rfl) rfl ⟨⟨A, rfl, Az.out, FF.out, by first | exact ⟨fun _ => EA_.out, fun h => absurd rfl h⟩ | exact EA_.out⟩, hBz⟩
    · have hd : (y != 0) = true := by simpa using hy
      go_wp2_with (refine wpList_store_mid rfl 37 _ _ rfl R 0 ([.int .i64 0, .slice none 0 0, .slice none 0 0, .slice none 0 0, .int .i64 0, .slice none 0 0, .int .i64 0, .int .i64 0, .int .i64 0, .int .i64 0, .int .i64 0, .int .i64 0, .int .i64 0, .int .i64 0, .int .i64 0, .int .i64 0, .int .i64 0, .int .i64 0, .int .i64 0, .int .i64 0, .int .i64 0, .int .i64 0, .int .i64 0, .int .i64 0]).toArray rfl rfl HR9.out.free (by kernel_rfl) (by simp [Value.oneCell']) ?_; change wpList _ _ _ _ _ (w9.setCells R 0 ([.int .i64 0, .slice none 0 0, .slice none 0 0, .slice none 0 0, .int .i64 0, .slice none 0 0, .int .i64 0, .int .i64 0, .int .i64 0, .int .i64 0, .int .i64 0, .int .i64 0, .int .i64 0, .int .i64 0, .int .i64 0, .int .i64 0, .int .i64 0, .int .i64 0, .int .i64 0, .int .i64 0, .int .i64 0, .int .i64 0, .int .i64 0, .int .i64 0])); have HRz : Hid (Own R ([.int .i64 0, .slice none 0 0, .slice none 0 0, .slice none 0 0, .int .i64 0, .slice none 0 0, .int .i64 0, .int .i64 0, .int .i64 0, .int .i64 0, .int .i64 0, .int .i64 0, .int .i64 0, .int .i64 0, .int .i64 0, .int .i64 0, .int .i64 0, .int .i64 0, .int .i64 0, .int .i64 0, .int .i64 0, .int .i64 0, .int .i64 0, .int .i64 0]) (w9.setCells R 0 ([.int .i64 0, .slice none 0 0, .slice none 0 0, .slice none 0 0, .int .i64 0, .slice none 0 0, .int .i64 0, .int .i64 0, .int .i64 0, .int .i64 0, .int .i64 0, .int .i64 0, .int .i64 0, .int .i64 0, .int .i64 0, .int .i64 0, .int .i64 0, .int .i64 0, .int .i64 0, .int .i64 0, .int .i64 0, .int .i64 0, .int .i64 0, .int .i64 0]))) := Lib.hid (Own.store HR9.out rfl); have hBz : Below w.heap.size w (w9.setCells R 0 ([.int .i64 0, .slice none 0 0, .slice none 0 0, .slice none 0 0, .int .i64 0, .slice none 0 0, .int .i64 0, .int .i64 0, .int .i64 0, .int .i64 0, .int .i64 0, .int .i64 0, .int .i64 0, .int .i64 0, .int .i64 0, .int .i64 0, .int .i64 0, .int .i64 0, .int .i64 0, .int .i64 0, .int .i64 0, .int .i64 0, .int .i64 0, .int .i64 0])) := Below.setCells hBv Rw _ _; generalize w9.setCells R 0 ([.int .i64 0, .slice none 0 0, .slice none 0 0, .slice none 0 0, .int .i64 0, .slice none 0 0, .int .i64 0, .int .i64 0, .int .i64 0, .int .i64 0, .int .i64 0, .int .i64 0, .int .i64 0, .int .i64 0, .int .i64 0, .int .i64 0, .int .i64 0, .int .i64 0, .int .i64 0, .int .i64 0, .int .i64 0, .int .i64 0, .int .i64 0, .int .i64 0]) = wz at *)
      have hL := run_loadVar_mid (P := Tryd.prog) _ R 0 37 ([.int .i64 0, .slice none 0 0, .slice none 0 0, .slice none 0 0, .int .i64 0, .slice none 0 0, .int .i64 0, .int .i64 0, .int .i64 0, .int .i64 0, .int .i64 0, .int .i64 0, .int .i64 0, .int .i64 0, .int .i64 0, .int .i64 0, .int .i64 0, .int .i64 0, .int .i64 0, .int .i64 0, .int .i64 0, .int .i64 0, .int .i64 0, .int .i64 0]) _ HRz.out.cell Tryd.underlying37 rfl (by kernel_rfl)
      exact bodyPost_ret (v := .tuple #[.agg ([.int .i64 0, .slice none 0 0, .slice none 0 0, .slice none 0 0, .int .i64 0, .slice none 0 0, .int .i64 0, .int .i64 0, .int .i64 0, .int .i64 0, .int .i64 0, .int .i64 0, .int .i64 0, .int .i64 0, .int .i64 0, .int .i64 0, .int .i64 0, .int .i64 0, .int .i64 0, .int .i64 0, .int .i64 0, .int .i64 0, .int .i64 0, .int .i64 0]).toArray, .int .i64 y]) (res_two Tryd.results20 rfl hL rfl) rfl ⟨⟨kinA 0, rfl, kinA_at _ _, few_kin 0, by first | exact ⟨fun h => absurd h hy, fun _ => EqA.refl _⟩ | exact EqA.refl _⟩, hBz⟩
  · have hd : (z != 0) = true := by simpa using hz
    have hBv := HBe.out
    rw [if_neg hz] at EZ
    have ez := EZ.out
    subst ez
    go_wp2_with (refine wpList_store_mid rfl 37 _ _ rfl R 0 ([.int .i64 0, .slice none 0 0, .slice none 0 0, .slice none 0 0, .int .i64 0, .slice none 0 0, .int .i64 0, .int .i64 0, .int .i64 0, .int .i64 0, .int .i64 0, .int .i64 0, .int .i64 0, .int .i64 0, .int .i64 0, .int .i64 0, .int .i64 0, .int .i64 0, .int .i64 0, .int .i64 0, .int .i64 0, .int .i64 0, .int .i64 0, .int .i64 0]).toArray rfl rfl HRe.out.free (by kernel_rfl) (by simp [Value.oneCell']) ?_; change wpList _ _ _ _ _ (w5.setCells R 0 ([.int .i64 0, .slice none 0 0, .slice none 0 0, .slice none 0 0, .int .i64 0, .slice none 0 0, .int .i64 0, .int .i64 0, .int .i64 0, .int .i64 0, .int .i64 0, .int .i64 0, .int .i64 0, .int .i64 0, .int .i64 0, .int .i64 0, .int .i64 0, .int .i64 0, .int .i64 0, .int .i64 0, .int .i64 0, .int .i64 0, .int .i64 0, .int .i64 0])); have HRz : Hid (Own R ([.int .i64 0, .slice none 0 0, .slice none 0 0, .slice none 0 0, .int .i64 0, .slice none 0 0, .int .i64 0, .int .i64 0, .int .i64 0, .int .i64 0, .int .i64 0, .int .i64 0, .int .i64 0, .int .i64 0, .int .i64 0, .int .i64 0, .int .i64 0, .int .i64 0, .int .i64 0, .int .i64 0, .int .i64 0, .int .i64 0, .int .i64 0, .int .i64 0]) (w5.setCells R 0 ([.int .i64 0, .slice none 0 0, .slice none 0 0, .slice none 0 0, .int .i64 0, .slice none 0 0, .int .i64 0, .int .i64 0, .int .i64 0, .int .i64 0, .int .i64 0, .int .i64 0, .int .i64 0, .int .i64 0, .int .i64 0, .int .i64 0, .int .i64 0, .int .i64 0, .int .i64 0, .int .i64 0, .int .i64 0, .int .i64 0, .int .i64 0, .int .i64 0]))) := Lib.hid (Own.store HRe.out rfl); have hBz : Below w.heap.size w (w5.setCells R 0 ([.int .i64 0, .slice none 0 0, .slice none 0 0, .slice none 0 0, .int .i64 0, .slice none 0 0, .int .i64 0, .int .i64 0, .int .i64 0, .int .i64 0, .int .i64 0, .int .i64 0, .int .i64 0, .int .i64 0, .int .i64 0, .int .i64 0, .int .i64 0, .int .i64 0, .int .i64 0, .int .i64 0, .int .i64 0, .int .i64 0, .int .i64 0, .int .i64 0])) := Below.setCells hBv Rw _ _; generalize w5.setCells R 0 ([.int .i64 0, .slice none 0 0, .slice none 0 0, .slice none 0 0, .int .i64 0, .slice none 0 0, .int .i64 0, .int .i64 0, .int .i64 0, .int .i64 0, .int .i64 0, .int .i64 0, .int .i64 0, .int .i64 0, .int .i64 0, .int .i64 0, .int .i64 0, .int .i64 0, .int .i64 0, .int .i64 0, .int .i64 0, .int .i64 0, .int .i64 0, .int .i64 0]) = wz at *)
    have hL := run_loadVar_mid (P := Tryd.prog) _ R 0 37 ([.int .i64 0, .slice none 0 0, .slice none 0 0, .slice none 0 0, .int .i64 0, .slice none 0 0, .int .i64 0, .int .i64 0, .int .i64 0, .int .i64 0, .int .i64 0, .int .i64 0, .int .i64 0, .int .i64 0, .int .i64 0, .int .i64 0, .int .i64 0, .int .i64 0, .int .i64 0, .int .i64 0, .int .i64 0, .int .i64 0, .int .i64 0, .int .i64 0]) _ HRz.out.cell Tryd.underlying37 rfl (by kernel_rfl)
    exact bodyPost_ret (v := .tuple #[.agg ([.int .i64 0, .slice none 0 0, .slice none 0 0, .slice none 0 0, .int .i64 0, .slice none 0 0, .int .i64 0, .int .i64 0, .int .i64 0, .int .i64 0, .int .i64 0, .int .i64 0, .int .i64 0, .int .i64 0, .int .i64 0, .int .i64 0, .int .i64 0, .int .i64 0, .int .i64 0, .int .i64 0, .int .i64 0, .int .i64 0, .int .i64 0, .int .i64 0]).toArray, .int .i64 y]) (res_two Tryd.results20 rfl hL rfl) rfl ⟨⟨kinA 0, rfl, kinA_at _ _, few_kin 0, by first | exact ⟨fun h => absurd h hz, fun _ => EqA.refl _⟩ | exact EqA.refl _⟩, hBz⟩
set_option maxHeartbeats 16000000 in
theorem RDec_4 (F : Nat → Int) (q : Option Addr) (N c : Nat) (hF : ∀ j, j < N → inB (F j)) (hNc : N ≤ c) (hcx : c ≤ 9223372036854775807) (hN : N ≤ 900) (w : World) (hq : Byt w q N F) :
    Calls Tryd.prog 20 #[.int .i64 4, .slice q N c] w fun e w' => (∃ A, e = .returned (.tuple #[(.agg #[.int .i64 A.k, .slice A.M.qv A.M.nv A.M.cv, .slice A.M.qu A.M.nu A.M.cu, .slice A.M.qt A.M.nt A.M.ct, .int .i64 A.X.S, .slice A.X.q A.X.n A.X.c, .int .i64 (A.g 0), .int .i64 (A.g 1), .int .i64 (A.g 2), .int .i64 (A.g 3), .int .i64 (A.g 4), .int .i64 (A.l 0), .int .i64 (A.l 1), .int .i64 (A.l 2), .int .i64 (A.l 3), .int .i64 (A.l 4), .int .i64 (A.l 5), .int .i64 (A.l 6), .int .i64 (A.l 7), .int .i64 (A.l 8), .int .i64 (A.l 9), .int .i64 (A.l 10), .int .i64 (A.l 11), .int .i64 (A.l 12)]), .int .i64 (decEA 4 F N)]) ∧ AstAt A w' ∧ FewA A ∧ (decEA 4 F N = 0 → EqA A (decA 4 F N)) ∧ (decEA 4 F N ≠ 0 → EqA A (kinA 0))) ∧ Below w.heap.size w w' := by
  have HQ := Lib.hid hq
  have HQL : Hid (∀ b off, N ≠ 0 → q = some ⟨b, off, none⟩ → b < w.heap.size) := Lib.hid (fun b off hn e => by
    rcases hq with h | ⟨b2, o2, e1, e2⟩
    · exact absurd h hn
    · rw [e] at e1; cases e1; exact e2.lt)
  have CK := Lib.hid (fun A (hf : FewA A) w h => RACheck_any A hf w h)
  have EZ : Hid (decEA 4 F N = if endE N 31 (erN N 31) = 0 then chkA (decA 4 F N) else endE N 31 (erN N 31)) := Lib.hid rfl
  have HNC := Lib.hid hNc; have HCX := Lib.hid hcx
  have C0 := Lib.hid (fun S D w h (hd : D = S ∨ D < w.heap.size) => RNum_nx (S := S) (D := D) (N := N) (t := 0) (F := F) (w := w) 1 1 1 rfl rfl (by decide) (by decide) hF h)
  have w0 : IntKind.i64.wrap (valN F N 0 1) = valN F N 0 1 := IntWalk.i64_in _ (by
    have a := in_valN hF 0 1
    have b := pw_le4 (W := 1) (by decide)
    omega)
  have C1 := Lib.hid (fun S D w h hd => three_any (K := S) (D := D) (N := N) (t := 1) (F := F) (w := w) 4 (by decide) (by decide) hF h hd)
  have C2 := Lib.hid (fun S D w h hd => RRead_any (S := S) (D := D) (N := N) (t := 13) (F := F) (w := w) hF h hd)
  have C3 := Lib.hid (fun S D w h hd => RRead_any (S := S) (D := D) (N := N) (t := 19) (F := F) (w := w) hF h hd)
  have C4 := Lib.hid (fun S D w h hd => RRead_any (S := S) (D := D) (N := N) (t := 25) (F := F) (w := w) hF h hd)
  have E0 := Lib.hid (erN_0 N)
  obtain ⟨z, ez⟩ : ∃ z, endE N 31 (erN N 31) = z := ⟨_, rfl⟩
  have ZE := Lib.hid ez
  rw [ez] at EZ
  obtain ⟨y, ey⟩ : ∃ y, decEA 4 F N = y := ⟨_, rfl⟩
  rw [ey] at EZ ⊢
  clear ey
  clear hF hNc hcx hq hN ez
  go_enter Tryd.func20, Tryd.ntmps20
  go_upto_region 1 with fail
  obtain ⟨W0, hW⟩ : ∃ W0, W0 = (w.alloc (.cells #[.int .i64 0, .slice none 0 0, .slice none 0 0, .slice none 0 0, .int .i64 0, .slice none 0 0, .int .i64 0, .int .i64 0, .int .i64 0, .int .i64 0, .int .i64 0, .int .i64 0, .int .i64 0, .int .i64 0, .int .i64 0, .int .i64 0, .int .i64 0, .int .i64 0, .int .i64 0, .int .i64 0, .int .i64 0, .int .i64 0, .int .i64 0, .int .i64 0] 37)) := ⟨_, rfl⟩
  have hB0 : Below w.heap.size w W0 := hW ▸ (Below.al (Below.refl _ _))
  have HR : Hid (Own w.heap.size ([.int .i64 0, .slice none 0 0, .slice none 0 0, .slice none 0 0, .int .i64 0, .slice none 0 0, .int .i64 0, .int .i64 0, .int .i64 0, .int .i64 0, .int .i64 0, .int .i64 0, .int .i64 0, .int .i64 0, .int .i64 0, .int .i64 0, .int .i64 0, .int .i64 0, .int .i64 0, .int .i64 0, .int .i64 0, .int .i64 0, .int .i64 0, .int .i64 0]) W0) := Lib.hid (hW ▸ (show Own w.heap.size ([.int .i64 0, .slice none 0 0, .slice none 0 0, .slice none 0 0, .int .i64 0, .slice none 0 0, .int .i64 0, .int .i64 0, .int .i64 0, .int .i64 0, .int .i64 0, .int .i64 0, .int .i64 0, .int .i64 0, .int .i64 0, .int .i64 0, .int .i64 0, .int .i64 0, .int .i64 0, .int .i64 0, .int .i64 0, .int .i64 0, .int .i64 0, .int .i64 0]) (w.alloc (.cells #[.int .i64 0, .slice none 0 0, .slice none 0 0, .slice none 0 0, .int .i64 0, .slice none 0 0, .int .i64 0, .int .i64 0, .int .i64 0, .int .i64 0, .int .i64 0, .int .i64 0, .int .i64 0, .int .i64 0, .int .i64 0, .int .i64 0, .int .i64 0, .int .i64 0, .int .i64 0, .int .i64 0, .int .i64 0, .int .i64 0, .int .i64 0, .int .i64 0] 37)) from Own.newAt (by simp)))
  rw [← hW]
  clear hW
  obtain ⟨R, eR⟩ : ∃ X, X = w.heap.size := ⟨_, rfl⟩
  rw [← eR] at HR ⊢
  have Rw : w.heap.size ≤ R := by omega
  clear eR
  have HQ0 := Lib.hid (HQ.out.later hB0)
  have HB := Lib.hid hB0
  clear HQ hB0
  go_upto_region 2 with (refine wpList_store_mid rfl 37 _ _ rfl _ 0 #[.int .i64 4, .slice none 0 0, .slice none 0 0, .slice none 0 0, .int .i64 0, .slice none 0 0, .int .i64 0, .int .i64 0, .int .i64 0, .int .i64 0, .int .i64 0, .int .i64 0, .int .i64 0, .int .i64 0, .int .i64 0, .int .i64 0, .int .i64 0, .int .i64 0, .int .i64 0, .int .i64 0, .int .i64 0, .int .i64 0, .int .i64 0, .int .i64 0] rfl rfl (there_newn (cs := [.int .i64 0, .slice none 0 0, .slice none 0 0, .slice none 0 0, .int .i64 0, .slice none 0 0, .int .i64 0, .int .i64 0, .int .i64 0, .int .i64 0, .int .i64 0, .int .i64 0, .int .i64 0, .int .i64 0, .int .i64 0, .int .i64 0, .int .i64 0, .int .i64 0, .int .i64 0, .int .i64 0, .int .i64 0, .int .i64 0, .int .i64 0, .int .i64 0]) (by simp)) (by kernel_rfl) (by simp [Value.oneCell']) ?_; (obtain ⟨W2, hW2⟩ : ∃ W, W = (W0.alloc (.cells #[.int .i64 0, .slice none 0 0, .slice none 0 0, .slice none 0 0, .int .i64 0, .slice none 0 0, .int .i64 0, .int .i64 0, .int .i64 0, .int .i64 0, .int .i64 0, .int .i64 0, .int .i64 0, .int .i64 0, .int .i64 0, .int .i64 0, .int .i64 0, .int .i64 0, .int .i64 0, .int .i64 0, .int .i64 0, .int .i64 0, .int .i64 0, .int .i64 0] 37)).setCells W0.heap.size 0 ([.int .i64 4, .slice none 0 0, .slice none 0 0, .slice none 0 0, .int .i64 0, .slice none 0 0, .int .i64 0, .int .i64 0, .int .i64 0, .int .i64 0, .int .i64 0, .int .i64 0, .int .i64 0, .int .i64 0, .int .i64 0, .int .i64 0, .int .i64 0, .int .i64 0, .int .i64 0, .int .i64 0, .int .i64 0, .int .i64 0, .int .i64 0, .int .i64 0]) := ⟨_, rfl⟩); have hbx : Below W0.heap.size W0 W2 := hW2 ▸ Below.setCells (Below.al (Below.refl _ _)) (Nat.le_refl _) _ _; have HA : Hid (Own W0.heap.size ([.int .i64 4, .slice none 0 0, .slice none 0 0, .slice none 0 0, .int .i64 0, .slice none 0 0, .int .i64 0, .int .i64 0, .int .i64 0, .int .i64 0, .int .i64 0, .int .i64 0, .int .i64 0, .int .i64 0, .int .i64 0, .int .i64 0, .int .i64 0, .int .i64 0, .int .i64 0, .int .i64 0, .int .i64 0, .int .i64 0, .int .i64 0, .int .i64 0]) W2) := Lib.hid (hW2 ▸ Own.store (Own.new _ [.int .i64 0, .slice none 0 0, .slice none 0 0, .slice none 0 0, .int .i64 0, .slice none 0 0, .int .i64 0, .int .i64 0, .int .i64 0, .int .i64 0, .int .i64 0, .int .i64 0, .int .i64 0, .int .i64 0, .int .i64 0, .int .i64 0, .int .i64 0, .int .i64 0, .int .i64 0, .int .i64 0, .int .i64 0, .int .i64 0, .int .i64 0, .int .i64 0] _) rfl); change wpList _ _ _ _ _ ((W0.alloc (.cells #[.int .i64 0, .slice none 0 0, .slice none 0 0, .slice none 0 0, .int .i64 0, .slice none 0 0, .int .i64 0, .int .i64 0, .int .i64 0, .int .i64 0, .int .i64 0, .int .i64 0, .int .i64 0, .int .i64 0, .int .i64 0, .int .i64 0, .int .i64 0, .int .i64 0, .int .i64 0, .int .i64 0, .int .i64 0, .int .i64 0, .int .i64 0, .int .i64 0] 37)).setCells W0.heap.size 0 ([.int .i64 4, .slice none 0 0, .slice none 0 0, .slice none 0 0, .int .i64 0, .slice none 0 0, .int .i64 0, .int .i64 0, .int .i64 0, .int .i64 0, .int .i64 0, .int .i64 0, .int .i64 0, .int .i64 0, .int .i64 0, .int .i64 0, .int .i64 0, .int .i64 0, .int .i64 0, .int .i64 0, .int .i64 0, .int .i64 0, .int .i64 0, .int .i64 0])); rw [← hW2]; clear hW2)
  have nRQ : R ≠ W0.heap.size := by have := HR.out.lt; omega
  have Qw : w.heap.size ≤ W0.heap.size := HB.out.size
  obtain ⟨Q, eQ⟩ : ∃ X, X = W0.heap.size := ⟨_, rfl⟩
  rw [← eQ] at HA nRQ Qw ⊢
  clear eQ
  have HR2 := Lib.hid (HR.out.later hbx); have HQ2 := Lib.hid (HQ0.out.later hbx); have HB2 := Lib.hid (Below.go HB.out hbx)
  clear HR HQ0 HB hbx
  go_upto_region 3 with fail
  obtain ⟨w3, hW⟩ : ∃ w3, w3 = (W2.alloc (.cells #[.slice q N c, .int .i64 0, .int .i64 0] 77)) := ⟨_, rfl⟩
  have hbx : Below W2.heap.size W2 w3 := hW ▸ (Below.al (Below.refl _ _))
  have HS : Hid (Own W2.heap.size ([.slice q N c, .int .i64 0, .int .i64 0]) w3) := Lib.hid (hW ▸ (show Own W2.heap.size ([.slice q N c, .int .i64 0, .int .i64 0]) (W2.alloc (.cells #[.slice q N c, .int .i64 0, .int .i64 0] 77)) from Own.newAt (by simp)))
  rw [← hW]
  clear hW
  obtain ⟨S, eS⟩ : ∃ X, X = W2.heap.size := ⟨_, rfl⟩
  rw [← eS] at HS ⊢
  have Sw : W2.heap.size ≤ S := by omega
  clear eS
  have HR3 := Lib.hid (HR2.out.later hbx); have HA3 := Lib.hid (HA.out.later hbx); have HQ3 := Lib.hid (HQ2.out.later hbx); have HB3 := Lib.hid (Below.go HB2.out hbx)
  have nRS : R ≠ S := by have := HR2.out.lt; omega
  have nQS : Q ≠ S := by have := HA.out.lt; omega
  clear HR2 HA HQ2 hbx
  have SW : Hid (w.heap.size ≤ S) := Lib.hid (by have := HB2.out.size; omega)
  obtain ⟨D, hD, hbd⟩ : ∃ D, (D = S ∨ D < w.heap.size) ∧ BytD w3 q N F S D := by
    by_cases h0 : N = 0
    · exact ⟨S, .inl rfl, .inl h0⟩
    · obtain ⟨b, off, e1, e2⟩ := HQ3.out.resolve_left h0
      have hb := HQL.out b off h0 e1
      exact ⟨b, .inr hb, .inr ⟨off, e1, by have := SW.out; omega, e2⟩⟩
  have RN0 : Hid (RRn w3 S D F N 0) := Lib.hid ⟨0, ⟨⟨q, c, by rw [E0.out]; exact HS.out, hbd, HNC.out, HCX.out⟩, Nat.zero_le _⟩, fun _ => rfl⟩
  have nDQ : D ≠ Q := by rcases hD with e | e <;> omega
  have HD0 : Hid (D = S ∨ D < w3.heap.size) := Lib.hid (hD.imp id (fun h => Nat.lt_of_lt_of_le h HB3.out.size))
  clear HS hbd hD E0 HQ3 HQL HNC HCX HB2
  have HR0 := HR3; have HA0 := HA3; have HB0 := HB3
  clear HR3 HA3 HB3
  go_wp2_with (fail)
  go_at_call 39
  refine (C0.out S D _ RN0.out HD0.out).mono ?_
  rintro e y0 ⟨rfl, k1, k2⟩
  have HRa := Lib.hid (HR0.out.but k2 nRS); have HAa := Lib.hid (HA0.out.but k2 nQS); have HBa := Lib.hid (HB0.out.trans (k2.below.mono SW.out)); have RNa := Lib.hid k1; have HDa : Hid (D = S ∨ D < y0.heap.size) := Lib.hid (HD0.out.imp id (fun h => Nat.lt_of_lt_of_le h k2.below.size))
  clear k1 k2 HR0 HA0 HB0 RN0 HD0 C0
  have oQ := HAa.out
  have Q11 := oQ.at 11 _ rfl
  have Qf11 := oQ.ok 11 (by simp)
  have Ql := oQ.lt
  clear oQ
  go_upto_region 16 with fail
  clear Q11 Qf11 Ql
  rw [show (y0.setCell ⟨Q, 11, none⟩ (.int .i64 (valN F N 0 1))) = y0.setCells Q 11 [.int .i64 (valN F N 0 1)] from rfl]
  have HA1 : Hid (Own Q ([.int .i64 4, .slice none 0 0, .slice none 0 0, .slice none 0 0, .int .i64 0, .slice none 0 0, .int .i64 0, .int .i64 0, .int .i64 0, .int .i64 0, .int .i64 0, .int .i64 (valN F N 0 1), .int .i64 0, .int .i64 0, .int .i64 0, .int .i64 0, .int .i64 0, .int .i64 0, .int .i64 0, .int .i64 0, .int .i64 0, .int .i64 0, .int .i64 0, .int .i64 0]) (y0.setCells Q 11 [.int .i64 (valN F N 0 1)])) := Lib.hid (show Own Q (over _ 11 [.int .i64 (valN F N 0 1)]) _ from Own.part HAa.out (by simp))
  have HB1 : Hid (Below w.heap.size w (y0.setCells Q 11 [.int .i64 (valN F N 0 1)])) := Lib.hid (Below.setCells HBa.out Qw _ _)
  have HR1 : Hid (Own R [.int .i64 0, .slice none 0 0, .slice none 0 0, .slice none 0 0, .int .i64 0, .slice none 0 0, .int .i64 0, .int .i64 0, .int .i64 0, .int .i64 0, .int .i64 0, .int .i64 0, .int .i64 0, .int .i64 0, .int .i64 0, .int .i64 0, .int .i64 0, .int .i64 0, .int .i64 0, .int .i64 0, .int .i64 0, .int .i64 0, .int .i64 0, .int .i64 0] (y0.setCells Q 11 [.int .i64 (valN F N 0 1)])) := Lib.hid (Own.far HRa.out nRQ)
  have RN1 := Lib.hid (RNa.out.far (But.store (K := Q) (o := 11) (vs := [.int .i64 (valN F N 0 1)])) (Ne.symm nQS) nDQ)
  have HD1 : Hid (D = S ∨ D < (y0.setCells Q 11 [.int .i64 (valN F N 0 1)]).heap.size) := Lib.hid (by rw [size_setCells]; exact HDa.out)
  clear HRa HAa HBa RNa HDa
  generalize y0.setCells Q 11 [.int .i64 (valN F N 0 1)] = z0 at *
  go_wp2_with (fail)
  go_at_call 40
  refine (C1.out S D _ RN1.out HD1.out).mono ?_
  rintro e y1 ⟨rfl, k1, k2⟩
  have HRa := Lib.hid (HR1.out.but k2 nRS); have HAa := Lib.hid (HA1.out.but k2 nQS); have HBa := Lib.hid (HB1.out.trans (k2.below.mono SW.out)); have RNa := Lib.hid k1; have HDa : Hid (D = S ∨ D < y1.heap.size) := Lib.hid (HD1.out.imp id (fun h => Nat.lt_of_lt_of_le h k2.below.size))
  clear k1 k2 HR1 HA1 HB1 RN1 HD1 C1
  have oQ := HAa.out
  have Q12 := oQ.at 12 _ rfl
  have Qf12 := oQ.ok 12 (by simp)
  have Q13 := oQ.at 13 _ rfl
  have Qf13 := oQ.ok 13 (by simp)
  have Q14 := oQ.at 14 _ rfl
  have Qf14 := oQ.ok 14 (by simp)
  have Ql := oQ.lt
  clear oQ
  go_upto_region 17 with fail
  clear Q12 Qf12 Q13 Qf13 Q14 Qf14 Ql
  rw [show (((y1.setCell ⟨Q, 12, none⟩ (.int .i64 (valN F N 1 4))).setCell ⟨Q, 13, none⟩ (.int .i64 (valN F N (1 + 4) 4))).setCell ⟨Q, 14, none⟩ (.int .i64 (valN F N (1 + 4 + 4) 4))) = y1.setCells Q 12 [.int .i64 (valN F N 1 4), .int .i64 (valN F N (1 + 4) 4), .int .i64 (valN F N (1 + 4 + 4) 4)] from rfl]
  have HA2 : Hid (Own Q ([.int .i64 4, .slice none 0 0, .slice none 0 0, .slice none 0 0, .int .i64 0, .slice none 0 0, .int .i64 0, .int .i64 0, .int .i64 0, .int .i64 0, .int .i64 0, .int .i64 (valN F N 0 1), .int .i64 (valN F N 1 4), .int .i64 (valN F N (1 + 4) 4), .int .i64 (valN F N (1 + 4 + 4) 4), .int .i64 0, .int .i64 0, .int .i64 0, .int .i64 0, .int .i64 0, .int .i64 0, .int .i64 0, .int .i64 0, .int .i64 0]) (y1.setCells Q 12 [.int .i64 (valN F N 1 4), .int .i64 (valN F N (1 + 4) 4), .int .i64 (valN F N (1 + 4 + 4) 4)])) := Lib.hid (show Own Q (over _ 12 [.int .i64 (valN F N 1 4), .int .i64 (valN F N (1 + 4) 4), .int .i64 (valN F N (1 + 4 + 4) 4)]) _ from Own.part HAa.out (by simp))
  have HB2 : Hid (Below w.heap.size w (y1.setCells Q 12 [.int .i64 (valN F N 1 4), .int .i64 (valN F N (1 + 4) 4), .int .i64 (valN F N (1 + 4 + 4) 4)])) := Lib.hid (Below.setCells HBa.out Qw _ _)
  have HR2 : Hid (Own R [.int .i64 0, .slice none 0 0, .slice none 0 0, .slice none 0 0, .int .i64 0, .slice none 0 0, .int .i64 0, .int .i64 0, .int .i64 0, .int .i64 0, .int .i64 0, .int .i64 0, .int .i64 0, .int .i64 0, .int .i64 0, .int .i64 0, .int .i64 0, .int .i64 0, .int .i64 0, .int .i64 0, .int .i64 0, .int .i64 0, .int .i64 0, .int .i64 0] (y1.setCells Q 12 [.int .i64 (valN F N 1 4), .int .i64 (valN F N (1 + 4) 4), .int .i64 (valN F N (1 + 4 + 4) 4)])) := Lib.hid (Own.far HRa.out nRQ)
  have RN2 := Lib.hid (RNa.out.far (But.store (K := Q) (o := 12) (vs := [.int .i64 (valN F N 1 4), .int .i64 (valN F N (1 + 4) 4), .int .i64 (valN F N (1 + 4 + 4) 4)])) (Ne.symm nQS) nDQ)
  have HD2 : Hid (D = S ∨ D < (y1.setCells Q 12 [.int .i64 (valN F N 1 4), .int .i64 (valN F N (1 + 4) 4), .int .i64 (valN F N (1 + 4 + 4) 4)]).heap.size) := Lib.hid (by rw [size_setCells]; exact HDa.out)
  clear HRa HAa HBa RNa HDa
  generalize y1.setCells Q 12 [.int .i64 (valN F N 1 4), .int .i64 (valN F N (1 + 4) 4), .int .i64 (valN F N (1 + 4 + 4) 4)] = z1 at *
  go_wp2_with (fail)
  go_at_call 42
  refine (C2.out S D _ RN2.out HD2.out).mono ?_
  rintro e y2 ⟨rfl, k1, k2⟩
  have HRa := Lib.hid (HR2.out.but k2 nRS); have HAa := Lib.hid (HA2.out.but k2 nQS); have HBa := Lib.hid (HB2.out.trans (k2.below.mono SW.out)); have RNa := Lib.hid k1; have HDa : Hid (D = S ∨ D < y2.heap.size) := Lib.hid (HD2.out.imp id (fun h => Nat.lt_of_lt_of_le h k2.below.size))
  clear k1 k2 HR2 HA2 HB2 RN2 HD2 C2
  have oQ := HAa.out
  have Q15 := oQ.at 15 _ rfl
  have Qf15 := oQ.ok 15 (by simp)
  have Q16 := oQ.at 16 _ rfl
  have Qf16 := oQ.ok 16 (by simp)
  have Q17 := oQ.at 17 _ rfl
  have Qf17 := oQ.ok 17 (by simp)
  have Ql := oQ.lt
  clear oQ
  go_upto_region 18 with fail
  clear Q15 Qf15 Q16 Qf16 Q17 Qf17 Ql
  rw [show (((y2.setCell ⟨Q, 15, none⟩ (.int .i64 (sgnN F N 13))).setCell ⟨Q, 16, none⟩ (.int .i64 (sgnN F N (13 + 2)))).setCell ⟨Q, 17, none⟩ (.int .i64 (sgnN F N (13 + 4)))) = y2.setCells Q 15 [.int .i64 (sgnN F N 13), .int .i64 (sgnN F N (13 + 2)), .int .i64 (sgnN F N (13 + 4))] from rfl]
  have HA3 : Hid (Own Q ([.int .i64 4, .slice none 0 0, .slice none 0 0, .slice none 0 0, .int .i64 0, .slice none 0 0, .int .i64 0, .int .i64 0, .int .i64 0, .int .i64 0, .int .i64 0, .int .i64 (valN F N 0 1), .int .i64 (valN F N 1 4), .int .i64 (valN F N (1 + 4) 4), .int .i64 (valN F N (1 + 4 + 4) 4), .int .i64 (sgnN F N 13), .int .i64 (sgnN F N (13 + 2)), .int .i64 (sgnN F N (13 + 4)), .int .i64 0, .int .i64 0, .int .i64 0, .int .i64 0, .int .i64 0, .int .i64 0]) (y2.setCells Q 15 [.int .i64 (sgnN F N 13), .int .i64 (sgnN F N (13 + 2)), .int .i64 (sgnN F N (13 + 4))])) := Lib.hid (show Own Q (over _ 15 [.int .i64 (sgnN F N 13), .int .i64 (sgnN F N (13 + 2)), .int .i64 (sgnN F N (13 + 4))]) _ from Own.part HAa.out (by simp))
  have HB3 : Hid (Below w.heap.size w (y2.setCells Q 15 [.int .i64 (sgnN F N 13), .int .i64 (sgnN F N (13 + 2)), .int .i64 (sgnN F N (13 + 4))])) := Lib.hid (Below.setCells HBa.out Qw _ _)
  have HR3 : Hid (Own R [.int .i64 0, .slice none 0 0, .slice none 0 0, .slice none 0 0, .int .i64 0, .slice none 0 0, .int .i64 0, .int .i64 0, .int .i64 0, .int .i64 0, .int .i64 0, .int .i64 0, .int .i64 0, .int .i64 0, .int .i64 0, .int .i64 0, .int .i64 0, .int .i64 0, .int .i64 0, .int .i64 0, .int .i64 0, .int .i64 0, .int .i64 0, .int .i64 0] (y2.setCells Q 15 [.int .i64 (sgnN F N 13), .int .i64 (sgnN F N (13 + 2)), .int .i64 (sgnN F N (13 + 4))])) := Lib.hid (Own.far HRa.out nRQ)
  have RN3 := Lib.hid (RNa.out.far (But.store (K := Q) (o := 15) (vs := [.int .i64 (sgnN F N 13), .int .i64 (sgnN F N (13 + 2)), .int .i64 (sgnN F N (13 + 4))])) (Ne.symm nQS) nDQ)
  have HD3 : Hid (D = S ∨ D < (y2.setCells Q 15 [.int .i64 (sgnN F N 13), .int .i64 (sgnN F N (13 + 2)), .int .i64 (sgnN F N (13 + 4))]).heap.size) := Lib.hid (by rw [size_setCells]; exact HDa.out)
  clear HRa HAa HBa RNa HDa
  generalize y2.setCells Q 15 [.int .i64 (sgnN F N 13), .int .i64 (sgnN F N (13 + 2)), .int .i64 (sgnN F N (13 + 4))] = z2 at *
  go_wp2_with (fail)
  go_at_call 42
  refine (C3.out S D _ RN3.out HD3.out).mono ?_
  rintro e y3 ⟨rfl, k1, k2⟩
  have HRa := Lib.hid (HR3.out.but k2 nRS); have HAa := Lib.hid (HA3.out.but k2 nQS); have HBa := Lib.hid (HB3.out.trans (k2.below.mono SW.out)); have RNa := Lib.hid k1; have HDa : Hid (D = S ∨ D < y3.heap.size) := Lib.hid (HD3.out.imp id (fun h => Nat.lt_of_lt_of_le h k2.below.size))
  clear k1 k2 HR3 HA3 HB3 RN3 HD3 C3
  have oQ := HAa.out
  have Q18 := oQ.at 18 _ rfl
  have Qf18 := oQ.ok 18 (by simp)
  have Q19 := oQ.at 19 _ rfl
  have Qf19 := oQ.ok 19 (by simp)
  have Q20 := oQ.at 20 _ rfl
  have Qf20 := oQ.ok 20 (by simp)
  have Ql := oQ.lt
  clear oQ
  go_upto_region 19 with fail
  clear Q18 Qf18 Q19 Qf19 Q20 Qf20 Ql
  rw [show (((y3.setCell ⟨Q, 18, none⟩ (.int .i64 (sgnN F N 19))).setCell ⟨Q, 19, none⟩ (.int .i64 (sgnN F N (19 + 2)))).setCell ⟨Q, 20, none⟩ (.int .i64 (sgnN F N (19 + 4)))) = y3.setCells Q 18 [.int .i64 (sgnN F N 19), .int .i64 (sgnN F N (19 + 2)), .int .i64 (sgnN F N (19 + 4))] from rfl]
  have HA4 : Hid (Own Q ([.int .i64 4, .slice none 0 0, .slice none 0 0, .slice none 0 0, .int .i64 0, .slice none 0 0, .int .i64 0, .int .i64 0, .int .i64 0, .int .i64 0, .int .i64 0, .int .i64 (valN F N 0 1), .int .i64 (valN F N 1 4), .int .i64 (valN F N (1 + 4) 4), .int .i64 (valN F N (1 + 4 + 4) 4), .int .i64 (sgnN F N 13), .int .i64 (sgnN F N (13 + 2)), .int .i64 (sgnN F N (13 + 4)), .int .i64 (sgnN F N 19), .int .i64 (sgnN F N (19 + 2)), .int .i64 (sgnN F N (19 + 4)), .int .i64 0, .int .i64 0, .int .i64 0]) (y3.setCells Q 18 [.int .i64 (sgnN F N 19), .int .i64 (sgnN F N (19 + 2)), .int .i64 (sgnN F N (19 + 4))])) := Lib.hid (show Own Q (over _ 18 [.int .i64 (sgnN F N 19), .int .i64 (sgnN F N (19 + 2)), .int .i64 (sgnN F N (19 + 4))]) _ from Own.part HAa.out (by simp))
  have HB4 : Hid (Below w.heap.size w (y3.setCells Q 18 [.int .i64 (sgnN F N 19), .int .i64 (sgnN F N (19 + 2)), .int .i64 (sgnN F N (19 + 4))])) := Lib.hid (Below.setCells HBa.out Qw _ _)
  have HR4 : Hid (Own R [.int .i64 0, .slice none 0 0, .slice none 0 0, .slice none 0 0, .int .i64 0, .slice none 0 0, .int .i64 0, .int .i64 0, .int .i64 0, .int .i64 0, .int .i64 0, .int .i64 0, .int .i64 0, .int .i64 0, .int .i64 0, .int .i64 0, .int .i64 0, .int .i64 0, .int .i64 0, .int .i64 0, .int .i64 0, .int .i64 0, .int .i64 0, .int .i64 0] (y3.setCells Q 18 [.int .i64 (sgnN F N 19), .int .i64 (sgnN F N (19 + 2)), .int .i64 (sgnN F N (19 + 4))])) := Lib.hid (Own.far HRa.out nRQ)
  have RN4 := Lib.hid (RNa.out.far (But.store (K := Q) (o := 18) (vs := [.int .i64 (sgnN F N 19), .int .i64 (sgnN F N (19 + 2)), .int .i64 (sgnN F N (19 + 4))])) (Ne.symm nQS) nDQ)
  have HD4 : Hid (D = S ∨ D < (y3.setCells Q 18 [.int .i64 (sgnN F N 19), .int .i64 (sgnN F N (19 + 2)), .int .i64 (sgnN F N (19 + 4))]).heap.size) := Lib.hid (by rw [size_setCells]; exact HDa.out)
  clear HRa HAa HBa RNa HDa
  generalize y3.setCells Q 18 [.int .i64 (sgnN F N 19), .int .i64 (sgnN F N (19 + 2)), .int .i64 (sgnN F N (19 + 4))] = z3 at *
  go_wp2_with (fail)
  go_at_call 42
  refine (C4.out S D _ RN4.out HD4.out).mono ?_
  rintro e y4 ⟨rfl, k1, k2⟩
  have HRa := Lib.hid (HR4.out.but k2 nRS); have HAa := Lib.hid (HA4.out.but k2 nQS); have HBa := Lib.hid (HB4.out.trans (k2.below.mono SW.out)); have RNa := Lib.hid k1; have HDa : Hid (D = S ∨ D < y4.heap.size) := Lib.hid (HD4.out.imp id (fun h => Nat.lt_of_lt_of_le h k2.below.size))
  clear k1 k2 HR4 HA4 HB4 RN4 HD4 C4
  have oQ := HAa.out
  have Q21 := oQ.at 21 _ rfl
  have Qf21 := oQ.ok 21 (by simp)
  have Q22 := oQ.at 22 _ rfl
  have Qf22 := oQ.ok 22 (by simp)
  have Q23 := oQ.at 23 _ rfl
  have Qf23 := oQ.ok 23 (by simp)
  have Ql := oQ.lt
  clear oQ
  go_upto_region 20 with fail
  clear Q21 Qf21 Q22 Qf22 Q23 Qf23 Ql
  rw [show (((y4.setCell ⟨Q, 21, none⟩ (.int .i64 (sgnN F N 25))).setCell ⟨Q, 22, none⟩ (.int .i64 (sgnN F N (25 + 2)))).setCell ⟨Q, 23, none⟩ (.int .i64 (sgnN F N (25 + 4)))) = y4.setCells Q 21 [.int .i64 (sgnN F N 25), .int .i64 (sgnN F N (25 + 2)), .int .i64 (sgnN F N (25 + 4))] from rfl]
  have HA5 : Hid (Own Q ([.int .i64 4, .slice none 0 0, .slice none 0 0, .slice none 0 0, .int .i64 0, .slice none 0 0, .int .i64 0, .int .i64 0, .int .i64 0, .int .i64 0, .int .i64 0, .int .i64 (valN F N 0 1), .int .i64 (valN F N 1 4), .int .i64 (valN F N (1 + 4) 4), .int .i64 (valN F N (1 + 4 + 4) 4), .int .i64 (sgnN F N 13), .int .i64 (sgnN F N (13 + 2)), .int .i64 (sgnN F N (13 + 4)), .int .i64 (sgnN F N 19), .int .i64 (sgnN F N (19 + 2)), .int .i64 (sgnN F N (19 + 4)), .int .i64 (sgnN F N 25), .int .i64 (sgnN F N (25 + 2)), .int .i64 (sgnN F N (25 + 4))]) (y4.setCells Q 21 [.int .i64 (sgnN F N 25), .int .i64 (sgnN F N (25 + 2)), .int .i64 (sgnN F N (25 + 4))])) := Lib.hid (show Own Q (over _ 21 [.int .i64 (sgnN F N 25), .int .i64 (sgnN F N (25 + 2)), .int .i64 (sgnN F N (25 + 4))]) _ from Own.part HAa.out (by simp))
  have HB5 : Hid (Below w.heap.size w (y4.setCells Q 21 [.int .i64 (sgnN F N 25), .int .i64 (sgnN F N (25 + 2)), .int .i64 (sgnN F N (25 + 4))])) := Lib.hid (Below.setCells HBa.out Qw _ _)
  have HR5 : Hid (Own R [.int .i64 0, .slice none 0 0, .slice none 0 0, .slice none 0 0, .int .i64 0, .slice none 0 0, .int .i64 0, .int .i64 0, .int .i64 0, .int .i64 0, .int .i64 0, .int .i64 0, .int .i64 0, .int .i64 0, .int .i64 0, .int .i64 0, .int .i64 0, .int .i64 0, .int .i64 0, .int .i64 0, .int .i64 0, .int .i64 0, .int .i64 0, .int .i64 0] (y4.setCells Q 21 [.int .i64 (sgnN F N 25), .int .i64 (sgnN F N (25 + 2)), .int .i64 (sgnN F N (25 + 4))])) := Lib.hid (Own.far HRa.out nRQ)
  have RN5 := Lib.hid (RNa.out.far (But.store (K := Q) (o := 21) (vs := [.int .i64 (sgnN F N 25), .int .i64 (sgnN F N (25 + 2)), .int .i64 (sgnN F N (25 + 4))])) (Ne.symm nQS) nDQ)
  have HD5 : Hid (D = S ∨ D < (y4.setCells Q 21 [.int .i64 (sgnN F N 25), .int .i64 (sgnN F N (25 + 2)), .int .i64 (sgnN F N (25 + 4))]).heap.size) := Lib.hid (by rw [size_setCells]; exact HDa.out)
  clear HRa HAa HBa RNa HDa
  generalize y4.setCells Q 21 [.int .i64 (sgnN F N 25), .int .i64 (sgnN F N (25 + 2)), .int .i64 (sgnN F N (25 + 4))] = z4 at *
  go_wp2_with (fail)
  go_at_call 41
  refine (RREnd_any RN5.out).mono ?_
  rintro e w5 ⟨rfl, hb⟩
  rw [ZE.out]
  have HRe := Lib.hid (HR5.out.later hb); have HAe := Lib.hid (HA5.out.later hb); have HBe := Lib.hid (Below.go HB5.out hb)
  clear hb HR5 HA5 HB5 RN5 HD5 ZE SW
  go_upto_region 21 with fail
  obtain ⟨A, eA⟩ : ∃ A : Ast, A = ⟨4, nilM, nilX, fun _ => 0, decLt F N⟩ := ⟨_, rfl⟩
  have FF : Hid (FewA A) := Lib.hid (by rw [eA]; exact ⟨Nat.zero_le _, Nat.zero_le _, Nat.zero_le _, Nat.zero_le _⟩)
  have EE : Hid (z = 0 → EqA A (decA 4 F N)) := Lib.hid (fun hz => by rw [eA]; exact EqA.refl _)
  have AA : Hid (AstAt A w5) := Lib.hid (by rw [eA]; exact ⟨nilM_at _, nilX_at _⟩)
  have LL : Hid (LoneA A) := Lib.hid (by rw [eA]; exact .inr ⟨rfl, rfl, rfl, rfl⟩)
  have HA6 : Hid (Own Q [.int .i64 A.k, .slice A.M.qv A.M.nv A.M.cv, .slice A.M.qu A.M.nu A.M.cu, .slice A.M.qt A.M.nt A.M.ct, .int .i64 A.X.S, .slice A.X.q A.X.n A.X.c, .int .i64 (A.g 0), .int .i64 (A.g 1), .int .i64 (A.g 2), .int .i64 (A.g 3), .int .i64 (A.g 4), .int .i64 (A.l 0), .int .i64 (A.l 1), .int .i64 (A.l 2), .int .i64 (A.l 3), .int .i64 (A.l 4), .int .i64 (A.l 5), .int .i64 (A.l 6), .int .i64 (A.l 7), .int .i64 (A.l 8), .int .i64 (A.l 9), .int .i64 (A.l 10), .int .i64 (A.l 11), .int .i64 (A.l 12)] w5) := Lib.hid (by rw [eA]; exact HAe.out)
  clear HAe eA
  by_cases hz : z = 0
  · subst hz
    have EA_ := Lib.hid (EE.out rfl)
    rw [if_pos rfl, ← chkA_congr EA_.out] at EZ
    go_wp2_with (refine wpList_load_mid rfl 37 _ rfl Q 0 rfl ([.int .i64 A.k, .slice A.M.qv A.M.nv A.M.cv, .slice A.M.qu A.M.nu A.M.cu, .slice A.M.qt A.M.nt A.M.ct, .int .i64 A.X.S, .slice A.X.q A.X.n A.X.c, .int .i64 (A.g 0), .int .i64 (A.g 1), .int .i64 (A.g 2), .int .i64 (A.g 3), .int .i64 (A.g 4), .int .i64 (A.l 0), .int .i64 (A.l 1), .int .i64 (A.l 2), .int .i64 (A.l 3), .int .i64 (A.l 4), .int .i64 (A.l 5), .int .i64 (A.l 6), .int .i64 (A.l 7), .int .i64 (A.l 8), .int .i64 (A.l 9), .int .i64 (A.l 10), .int .i64 (A.l 11), .int .i64 (A.l 12)]) _ HA6.out.cell Tryd.underlying37 rfl (by kernel_rfl) ?_)
    go_at_call 14
    refine (CK.out A FF.out _ AA.out).mono ?_
    rintro e w9 ⟨rfl, hb⟩
    have HR9 := Lib.hid (HRe.out.later hb); have A9 := Lib.hid (AA.out.later hb); have HA9 := Lib.hid (HA6.out.later hb); have hBv := Below.go HBe.out hb
    clear HRe AA HA6 HBe hb CK
    rw [← EZ.out]
    clear EZ
    by_cases hy : y = 0
    · subst hy
      go_wp2_with (first | (refine wpList_load_mid rfl 37 _ rfl Q 0 rfl ([.int .i64 A.k, .slice A.M.qv A.M.nv A.M.cv, .slice A.M.qu A.M.nu A.M.cu, .slice A.M.qt A.M.nt A.M.ct, .int .i64 A.X.S, .slice A.X.q A.X.n A.X.c, .int .i64 (A.g 0), .int .i64 (A.g 1), .int .i64 (A.g 2), .int .i64 (A.g 3), .int .i64 (A.g 4), .int .i64 (A.l 0), .int .i64 (A.l 1), .int .i64 (A.l 2), .int .i64 (A.l 3), .int .i64 (A.l 4), .int .i64 (A.l 5), .int .i64 (A.l 6), .int .i64 (A.l 7), .int .i64 (A.l 8), .int .i64 (A.l 9), .int .i64 (A.l 10), .int .i64 (A.l 11), .int .i64 (A.l 12)]) _ HA9.out.cell Tryd.underlying37 rfl (by kernel_rfl) ?_) | (refine wpList_store_mid rfl 37 _ _ rfl R 0 ([.int .i64 A.k, .slice A.M.qv A.M.nv A.M.cv, .slice A.M.qu A.M.nu A.M.cu, .slice A.M.qt A.M.nt A.M.ct, .int .i64 A.X.S, .slice A.X.q A.X.n A.X.c, .int .i64 (A.g 0), .int .i64 (A.g 1), .int .i64 (A.g 2), .int .i64 (A.g 3), .int .i64 (A.g 4), .int .i64 (A.l 0), .int .i64 (A.l 1), .int .i64 (A.l 2), .int .i64 (A.l 3), .int .i64 (A.l 4), .int .i64 (A.l 5), .int .i64 (A.l 6), .int .i64 (A.l 7), .int .i64 (A.l 8), .int .i64 (A.l 9), .int .i64 (A.l 10), .int .i64 (A.l 11), .int .i64 (A.l 12)]).toArray rfl rfl HR9.out.free (by kernel_rfl) (by simp [Value.oneCell']) ?_; change wpList _ _ _ _ _ (w9.setCells R 0 ([.int .i64 A.k, .slice A.M.qv A.M.nv A.M.cv, .slice A.M.qu A.M.nu A.M.cu, .slice A.M.qt A.M.nt A.M.ct, .int .i64 A.X.S, .slice A.X.q A.X.n A.X.c, .int .i64 (A.g 0), .int .i64 (A.g 1), .int .i64 (A.g 2), .int .i64 (A.g 3), .int .i64 (A.g 4), .int .i64 (A.l 0), .int .i64 (A.l 1), .int .i64 (A.l 2), .int .i64 (A.l 3), .int .i64 (A.l 4), .int .i64 (A.l 5), .int .i64 (A.l 6), .int .i64 (A.l 7), .int .i64 (A.l 8), .int .i64 (A.l 9), .int .i64 (A.l 10), .int .i64 (A.l 11), .int .i64 (A.l 12)])); have HRz : Hid (Own R ([.int .i64 A.k, .slice A.M.qv A.M.nv A.M.cv, .slice A.M.qu A.M.nu A.M.cu, .slice A.M.qt A.M.nt A.M.ct, .int .i64 A.X.S, .slice A.X.q A.X.n A.X.c, .int .i64 (A.g 0), .int .i64 (A.g 1), .int .i64 (A.g 2), .int .i64 (A.g 3), .int .i64 (A.g 4), .int .i64 (A.l 0), .int .i64 (A.l 1), .int .i64 (A.l 2), .int .i64 (A.l 3), .int .i64 (A.l 4), .int .i64 (A.l 5), .int .i64 (A.l 6), .int .i64 (A.l 7), .int .i64 (A.l 8), .int .i64 (A.l 9), .int .i64 (A.l 10), .int .i64 (A.l 11), .int .i64 (A.l 12)]) (w9.setCells R 0 ([.int .i64 A.k, .slice A.M.qv A.M.nv A.M.cv, .slice A.M.qu A.M.nu A.M.cu, .slice A.M.qt A.M.nt A.M.ct, .int .i64 A.X.S, .slice A.X.q A.X.n A.X.c, .int .i64 (A.g 0), .int .i64 (A.g 1), .int .i64 (A.g 2), .int .i64 (A.g 3), .int .i64 (A.g 4), .int .i64 (A.l 0), .int .i64 (A.l 1), .int .i64 (A.l 2), .int .i64 (A.l 3), .int .i64 (A.l 4), .int .i64 (A.l 5), .int .i64 (A.l 6), .int .i64 (A.l 7), .int .i64 (A.l 8), .int .i64 (A.l 9), .int .i64 (A.l 10), .int .i64 (A.l 11), .int .i64 (A.l 12)]))) := Lib.hid (Own.store HR9.out rfl); have hBz : Below w.heap.size w (w9.setCells R 0 ([.int .i64 A.k, .slice A.M.qv A.M.nv A.M.cv, .slice A.M.qu A.M.nu A.M.cu, .slice A.M.qt A.M.nt A.M.ct, .int .i64 A.X.S, .slice A.X.q A.X.n A.X.c, .int .i64 (A.g 0), .int .i64 (A.g 1), .int .i64 (A.g 2), .int .i64 (A.g 3), .int .i64 (A.g 4), .int .i64 (A.l 0), .int .i64 (A.l 1), .int .i64 (A.l 2), .int .i64 (A.l 3), .int .i64 (A.l 4), .int .i64 (A.l 5), .int .i64 (A.l 6), .int .i64 (A.l 7), .int .i64 (A.l 8), .int .i64 (A.l 9), .int .i64 (A.l 10), .int .i64 (A.l 11), .int .i64 (A.l 12)])) := Below.setCells hBv Rw _ _; have Az := Lib.hid (AstAt.put LL.out A9.out HR9.out); generalize w9.setCells R 0 ([.int .i64 A.k, .slice A.M.qv A.M.nv A.M.cv, .slice A.M.qu A.M.nu A.M.cu, .slice A.M.qt A.M.nt A.M.ct, .int .i64 A.X.S, .slice A.X.q A.X.n A.X.c, .int .i64 (A.g 0), .int .i64 (A.g 1), .int .i64 (A.g 2), .int .i64 (A.g 3), .int .i64 (A.g 4), .int .i64 (A.l 0), .int .i64 (A.l 1), .int .i64 (A.l 2), .int .i64 (A.l 3), .int .i64 (A.l 4), .int .i64 (A.l 5), .int .i64 (A.l 6), .int .i64 (A.l 7), .int .i64 (A.l 8), .int .i64 (A.l 9), .int .i64 (A.l 10), .int .i64 (A.l 11), .int .i64 (A.l 12)]) = wz at *))
      have hL := run_loadVar_mid (P := Tryd.prog) _ R 0 37 ([.int .i64 A.k, .slice A.M.qv A.M.nv A.M.cv, .slice A.M.qu A.M.nu A.M.cu, .slice A.M.qt A.M.nt A.M.ct, .int .i64 A.X.S, .slice A.X.q A.X.n A.X.c, .int .i64 (A.g 0), .int .i64 (A.g 1), .int .i64 (A.g 2), .int .i64 (A.g 3), .int .i64 (A.g 4), .int .i64 (A.l 0), .int .i64 (A.l 1), .int .i64 (A.l 2), .int .i64 (A.l 3), .int .i64 (A.l 4), .int .i64 (A.l 5), .int .i64 (A.l 6), .int .i64 (A.l 7), .int .i64 (A.l 8), .int .i64 (A.l 9), .int .i64 (A.l 10), .int .i64 (A.l 11), .int .i64 (A.l 12)]) _ HRz.out.cell Tryd.underlying37 rfl (by kernel_rfl)
      exact bodyPost_ret (v := .tuple #[.agg ([.int .i64 A.k, .slice A.M.qv A.M.nv A.M.cv, .slice A.M.qu A.M.nu A.M.cu, .slice A.M.qt A.M.nt A.M.ct, .int .i64 A.X.S, .slice A.X.q A.X.n A.X.c, .int .i64 (A.g 0), .int .i64 (A.g 1), .int .i64 (A.g 2), .int .i64 (A.g 3), .int .i64 (A.g 4), .int .i64 (A.l 0), .int .i64 (A.l 1), .int .i64 (A.l 2), .int .i64 (A.l 3), .int .i64 (A.l 4), .int .i64 (A.l 5), .int .i64 (A.l 6), .int .i64 (A.l 7), .int .i64 (A.l 8), .int .i64 (A.l 9), .int .i64 (A.l 10), .int .i64 (A.l 11), .int .i64 (A.l 12)]).toArray, .int .i64 0]) (res_two Tryd.results20 rfl hL rfl) rfl ⟨⟨A, rfl, Az.out, FF.out, by first | exact ⟨fun _ => EA_.out, fun h => absurd rfl h⟩ | exact EA_.out⟩, hBz⟩
    · have hd : (y != 0) = true := by simpa using hy
      go_wp2_with (refine wpList_store_mid rfl 37 _ _ rfl R 0 ([.int .i64 0, .slice none 0 0, .slice none 0 0, .slice none 0 0, .int .i64 0, .slice none 0 0, .int .i64 0, .int .i64 0, .int .i64 0, .int .i64 0, .int .i64 0, .int .i64 0, .int .i64 0, .int .i64 0, .int .i64 0, .int .i64 0, .int .i64 0, .int .i64 0, .int .i64 0, .int .i64 0, .int .i64 0, .int .i64 0, .int .i64 0, .int .i64 0]).toArray rfl rfl HR9.out.free (by kernel_rfl) (by simp [Value.oneCell']) ?_; change wpList _ _ _ _ _ (w9.setCells R 0 ([.int .i64 0, .slice none 0 0, .slice none 0 0, .slice none 0 0, .int .i64 0, .slice none 0 0, .int .i64 0, .int .i64 0, .int .i64 0, .int .i64 0, .int .i64 0, .int .i64 0, .int .i64 0, .int .i64 0, .int .i64 0, .int .i64 0, .int .i64 0, .int .i64 0, .int .i64 0, .int .i64 0, .int .i64 0, .int .i64 0, .int .i64 0, .int .i64 0])); have HRz : Hid (Own R ([.int .i64 0, .slice none 0 0, .slice none 0 0, .slice none 0 0, .int .i64 0, .slice none 0 0, .int .i64 0, .int .i64 0, .int .i64 0, .int .i64 0, .int .i64 0, .int .i64 0, .int .i64 0, .int .i64 0, .int .i64 0, .int .i64 0, .int .i64 0, .int .i64 0, .int .i64 0, .int .i64 0, .int .i64 0, .int .i64 0, .int .i64 0, .int .i64 0]) (w9.setCells R 0 ([.int .i64 0, .slice none 0 0, .slice none 0 0, .slice none 0 0, .int .i64 0, .slice none 0 0, .int .i64 0, .int .i64 0, .int .i64 0, .int .i64 0, .int .i64 0, .int .i64 0, .int .i64 0, .int .i64 0, .int .i64 0, .int .i64 0, .int .i64 0, .int .i64 0, .int .i64 0, .int .i64 0, .int .i64 0, .int .i64 0, .int .i64 0, .int .i64 0]))) := Lib.hid (Own.store HR9.out rfl); have hBz : Below w.heap.size w (w9.setCells R 0 ([.int .i64 0, .slice none 0 0, .slice none 0 0, .slice none 0 0, .int .i64 0, .slice none 0 0, .int .i64 0, .int .i64 0, .int .i64 0, .int .i64 0, .int .i64 0, .int .i64 0, .int .i64 0, .int .i64 0, .int .i64 0, .int .i64 0, .int .i64 0, .int .i64 0, .int .i64 0, .int .i64 0, .int .i64 0, .int .i64 0, .int .i64 0, .int .i64 0])) := Below.setCells hBv Rw _ _; generalize w9.setCells R 0 ([.int .i64 0, .slice none 0 0, .slice none 0 0, .slice none 0 0, .int .i64 0, .slice none 0 0, .int .i64 0, .int .i64 0, .int .i64 0, .int .i64 0, .int .i64 0, .int .i64 0, .int .i64 0, .int .i64 0, .int .i64 0, .int .i64 0, .int .i64 0, .int .i64 0, .int .i64 0, .int .i64 0, .int .i64 0, .int .i64 0, .int .i64 0, .int .i64 0]) = wz at *)
      have hL := run_loadVar_mid (P := Tryd.prog) _ R 0 37 ([.int .i64 0, .slice none 0 0, .slice none 0 0, .slice none 0 0, .int .i64 0, .slice none 0 0, .int .i64 0, .int .i64 0, .int .i64 0, .int .i64 0, .int .i64 0, .int .i64 0, .int .i64 0, .int .i64 0, .int .i64 0, .int .i64 0, .int .i64 0, .int .i64 0, .int .i64 0, .int .i64 0, .int .i64 0, .int .i64 0, .int .i64 0, .int .i64 0]) _ HRz.out.cell Tryd.underlying37 rfl (by kernel_rfl)
      exact bodyPost_ret (v := .tuple #[.agg ([.int .i64 0, .slice none 0 0, .slice none 0 0, .slice none 0 0, .int .i64 0, .slice none 0 0, .int .i64 0, .int .i64 0, .int .i64 0, .int .i64 0, .int .i64 0, .int .i64 0, .int .i64 0, .int .i64 0, .int .i64 0, .int .i64 0, .int .i64 0, .int .i64 0, .int .i64 0, .int .i64 0, .int .i64 0, .int .i64 0, .int .i64 0, .int .i64 0]).toArray, .int .i64 y]) (res_two Tryd.results20 rfl hL rfl) rfl ⟨⟨kinA 0, rfl, kinA_at _ _, few_kin 0, by first | exact ⟨fun h => absurd h hy, fun _ => EqA.refl _⟩ | exact EqA.refl _⟩, hBz⟩
  · have hd : (z != 0) = true := by simpa using hz
    have hBv := HBe.out
    rw [if_neg hz] at EZ
    have ez := EZ.out
    subst ez
    go_wp2_with (refine wpList_store_mid rfl 37 _ _ rfl R 0 ([.int .i64 0, .slice none 0 0, .slice none 0 0, .slice none 0 0, .int .i64 0, .slice none 0 0, .int .i64 0, .int .i64 0, .int .i64 0, .int .i64 0, .int .i64 0, .int .i64 0, .int .i64 0, .int .i64 0, .int .i64 0, .int .i64 0, .int .i64 0, .int .i64 0, .int .i64 0, .int .i64 0, .int .i64 0, .int .i64 0, .int .i64 0, .int .i64 0]).toArray rfl rfl HRe.out.free (by kernel_rfl) (by simp [Value.oneCell']) ?_; change wpList _ _ _ _ _ (w5.setCells R 0 ([.int .i64 0, .slice none 0 0, .slice none 0 0, .slice none 0 0, .int .i64 0, .slice none 0 0, .int .i64 0, .int .i64 0, .int .i64 0, .int .i64 0, .int .i64 0, .int .i64 0, .int .i64 0, .int .i64 0, .int .i64 0, .int .i64 0, .int .i64 0, .int .i64 0, .int .i64 0, .int .i64 0, .int .i64 0, .int .i64 0, .int .i64 0, .int .i64 0])); have HRz : Hid (Own R ([.int .i64 0, .slice none 0 0, .slice none 0 0, .slice none 0 0, .int .i64 0, .slice none 0 0, .int .i64 0, .int .i64 0, .int .i64 0, .int .i64 0, .int .i64 0, .int .i64 0, .int .i64 0, .int .i64 0, .int .i64 0, .int .i64 0, .int .i64 0, .int .i64 0, .int .i64 0, .int .i64 0, .int .i64 0, .int .i64 0, .int .i64 0, .int .i64 0]) (w5.setCells R 0 ([.int .i64 0, .slice none 0 0, .slice none 0 0, .slice none 0 0, .int .i64 0, .slice none 0 0, .int .i64 0, .int .i64 0, .int .i64 0, .int .i64 0, .int .i64 0, .int .i64 0, .int .i64 0, .int .i64 0, .int .i64 0, .int .i64 0, .int .i64 0, .int .i64 0, .int .i64 0, .int .i64 0, .int .i64 0, .int .i64 0, .int .i64 0, .int .i64 0]))) := Lib.hid (Own.store HRe.out rfl); have hBz : Below w.heap.size w (w5.setCells R 0 ([.int .i64 0, .slice none 0 0, .slice none 0 0, .slice none 0 0, .int .i64 0, .slice none 0 0, .int .i64 0, .int .i64 0, .int .i64 0, .int .i64 0, .int .i64 0, .int .i64 0, .int .i64 0, .int .i64 0, .int .i64 0, .int .i64 0, .int .i64 0, .int .i64 0, .int .i64 0, .int .i64 0, .int .i64 0, .int .i64 0, .int .i64 0, .int .i64 0])) := Below.setCells hBv Rw _ _; generalize w5.setCells R 0 ([.int .i64 0, .slice none 0 0, .slice none 0 0, .slice none 0 0, .int .i64 0, .slice none 0 0, .int .i64 0, .int .i64 0, .int .i64 0, .int .i64 0, .int .i64 0, .int .i64 0, .int .i64 0, .int .i64 0, .int .i64 0, .int .i64 0, .int .i64 0, .int .i64 0, .int .i64 0, .int .i64 0, .int .i64 0, .int .i64 0, .int .i64 0, .int .i64 0]) = wz at *)
    have hL := run_loadVar_mid (P := Tryd.prog) _ R 0 37 ([.int .i64 0, .slice none 0 0, .slice none 0 0, .slice none 0 0, .int .i64 0, .slice none 0 0, .int .i64 0, .int .i64 0, .int .i64 0, .int .i64 0, .int .i64 0, .int .i64 0, .int .i64 0, .int .i64 0, .int .i64 0, .int .i64 0, .int .i64 0, .int .i64 0, .int .i64 0, .int .i64 0, .int .i64 0, .int .i64 0, .int .i64 0, .int .i64 0]) _ HRz.out.cell Tryd.underlying37 rfl (by kernel_rfl)
    exact bodyPost_ret (v := .tuple #[.agg ([.int .i64 0, .slice none 0 0, .slice none 0 0, .slice none 0 0, .int .i64 0, .slice none 0 0, .int .i64 0, .int .i64 0, .int .i64 0, .int .i64 0, .int .i64 0, .int .i64 0, .int .i64 0, .int .i64 0, .int .i64 0, .int .i64 0, .int .i64 0, .int .i64 0, .int .i64 0, .int .i64 0, .int .i64 0, .int .i64 0, .int .i64 0, .int .i64 0]).toArray, .int .i64 y]) (res_two Tryd.results20 rfl hL rfl) rfl ⟨⟨kinA 0, rfl, kinA_at _ _, few_kin 0, by first | exact ⟨fun h => absurd h hz, fun _ => EqA.refl _⟩ | exact EqA.refl _⟩, hBz⟩
set_option maxHeartbeats 16000000 in
theorem RDec_0 (k : Int) (hk : k ≠ 1 ∧ k ≠ 2 ∧ k ≠ 3 ∧ k ≠ 4) (F : Nat → Int) (q : Option Addr) (N c : Nat) (hF : ∀ j, j < N → inB (F j)) (hNc : N ≤ c) (hcx : c ≤ 9223372036854775807) (hN : N ≤ 900) (w : World) (hq : Byt w q N F) :
    Calls Tryd.prog 20 #[.int .i64 k, .slice q N c] w fun e w' => (∃ A, e = .returned (.tuple #[(.agg #[.int .i64 A.k, .slice A.M.qv A.M.nv A.M.cv, .slice A.M.qu A.M.nu A.M.cu, .slice A.M.qt A.M.nt A.M.ct, .int .i64 A.X.S, .slice A.X.q A.X.n A.X.c, .int .i64 (A.g 0), .int .i64 (A.g 1), .int .i64 (A.g 2), .int .i64 (A.g 3), .int .i64 (A.g 4), .int .i64 (A.l 0), .int .i64 (A.l 1), .int .i64 (A.l 2), .int .i64 (A.l 3), .int .i64 (A.l 4), .int .i64 (A.l 5), .int .i64 (A.l 6), .int .i64 (A.l 7), .int .i64 (A.l 8), .int .i64 (A.l 9), .int .i64 (A.l 10), .int .i64 (A.l 11), .int .i64 (A.l 12)]), .int .i64 (decEA k F N)]) ∧ AstAt A w' ∧ FewA A ∧ (decEA k F N = 0 → EqA A (decA k F N)) ∧ (decEA k F N ≠ 0 → EqA A (kinA 0))) ∧ Below w.heap.size w w' := by
  have HQ := Lib.hid hq
  have CK := Lib.hid (fun A (hf : FewA A) w h => RACheck_any A hf w h)
  have EZ : Hid (decEA k F N = 12) := Lib.hid (by
    unfold decEA
    rw [decZ_0 hk]
    rfl)
  have d1 : (k == 1) = false := by simpa using hk.1
  have d2 : (k == 2) = false := by simpa using hk.2.1
  have d3 : (k == 3) = false := by simpa using hk.2.2.1
  have d4 : (k == 4) = false := by simpa using hk.2.2.2
  have C12 : Hid (chkA (kinA k) = 12) := Lib.hid (by show (if k = 1 then _ else if k = 2 then _ else if k = 3 then _ else if k = 4 then _ else (12 : Int)) = 12; rw [if_neg hk.1, if_neg hk.2.1, if_neg hk.2.2.1, if_neg hk.2.2.2])
  rw [EZ.out]
  clear hF hNc hcx hq hN hk EZ
  go_enter Tryd.func20, Tryd.ntmps20
  go_upto_region 1 with fail
  obtain ⟨W0, hW⟩ : ∃ W0, W0 = (w.alloc (.cells #[.int .i64 0, .slice none 0 0, .slice none 0 0, .slice none 0 0, .int .i64 0, .slice none 0 0, .int .i64 0, .int .i64 0, .int .i64 0, .int .i64 0, .int .i64 0, .int .i64 0, .int .i64 0, .int .i64 0, .int .i64 0, .int .i64 0, .int .i64 0, .int .i64 0, .int .i64 0, .int .i64 0, .int .i64 0, .int .i64 0, .int .i64 0, .int .i64 0] 37)) := ⟨_, rfl⟩
  have hB0 : Below w.heap.size w W0 := hW ▸ (Below.al (Below.refl _ _))
  have HR : Hid (Own w.heap.size ([.int .i64 0, .slice none 0 0, .slice none 0 0, .slice none 0 0, .int .i64 0, .slice none 0 0, .int .i64 0, .int .i64 0, .int .i64 0, .int .i64 0, .int .i64 0, .int .i64 0, .int .i64 0, .int .i64 0, .int .i64 0, .int .i64 0, .int .i64 0, .int .i64 0, .int .i64 0, .int .i64 0, .int .i64 0, .int .i64 0, .int .i64 0, .int .i64 0]) W0) := Lib.hid (hW ▸ (show Own w.heap.size ([.int .i64 0, .slice none 0 0, .slice none 0 0, .slice none 0 0, .int .i64 0, .slice none 0 0, .int .i64 0, .int .i64 0, .int .i64 0, .int .i64 0, .int .i64 0, .int .i64 0, .int .i64 0, .int .i64 0, .int .i64 0, .int .i64 0, .int .i64 0, .int .i64 0, .int .i64 0, .int .i64 0, .int .i64 0, .int .i64 0, .int .i64 0, .int .i64 0]) (w.alloc (.cells #[.int .i64 0, .slice none 0 0, .slice none 0 0, .slice none 0 0, .int .i64 0, .slice none 0 0, .int .i64 0, .int .i64 0, .int .i64 0, .int .i64 0, .int .i64 0, .int .i64 0, .int .i64 0, .int .i64 0, .int .i64 0, .int .i64 0, .int .i64 0, .int .i64 0, .int .i64 0, .int .i64 0, .int .i64 0, .int .i64 0, .int .i64 0, .int .i64 0] 37)) from Own.newAt (by simp)))
  rw [← hW]
  clear hW
  obtain ⟨R, eR⟩ : ∃ X, X = w.heap.size := ⟨_, rfl⟩
  rw [← eR] at HR ⊢
  have Rw : w.heap.size ≤ R := by omega
  clear eR
  have HQ0 := Lib.hid (HQ.out.later hB0)
  have HB := Lib.hid hB0
  clear HQ hB0
  go_upto_region 2 with (refine wpList_store_mid rfl 37 _ _ rfl _ 0 #[.int .i64 k, .slice none 0 0, .slice none 0 0, .slice none 0 0, .int .i64 0, .slice none 0 0, .int .i64 0, .int .i64 0, .int .i64 0, .int .i64 0, .int .i64 0, .int .i64 0, .int .i64 0, .int .i64 0, .int .i64 0, .int .i64 0, .int .i64 0, .int .i64 0, .int .i64 0, .int .i64 0, .int .i64 0, .int .i64 0, .int .i64 0, .int .i64 0] rfl rfl (there_newn (cs := [.int .i64 0, .slice none 0 0, .slice none 0 0, .slice none 0 0, .int .i64 0, .slice none 0 0, .int .i64 0, .int .i64 0, .int .i64 0, .int .i64 0, .int .i64 0, .int .i64 0, .int .i64 0, .int .i64 0, .int .i64 0, .int .i64 0, .int .i64 0, .int .i64 0, .int .i64 0, .int .i64 0, .int .i64 0, .int .i64 0, .int .i64 0, .int .i64 0]) (by simp)) (by kernel_rfl) (by simp [Value.oneCell']) ?_; (obtain ⟨W2, hW2⟩ : ∃ W, W = (W0.alloc (.cells #[.int .i64 0, .slice none 0 0, .slice none 0 0, .slice none 0 0, .int .i64 0, .slice none 0 0, .int .i64 0, .int .i64 0, .int .i64 0, .int .i64 0, .int .i64 0, .int .i64 0, .int .i64 0, .int .i64 0, .int .i64 0, .int .i64 0, .int .i64 0, .int .i64 0, .int .i64 0, .int .i64 0, .int .i64 0, .int .i64 0, .int .i64 0, .int .i64 0] 37)).setCells W0.heap.size 0 ([.int .i64 k, .slice none 0 0, .slice none 0 0, .slice none 0 0, .int .i64 0, .slice none 0 0, .int .i64 0, .int .i64 0, .int .i64 0, .int .i64 0, .int .i64 0, .int .i64 0, .int .i64 0, .int .i64 0, .int .i64 0, .int .i64 0, .int .i64 0, .int .i64 0, .int .i64 0, .int .i64 0, .int .i64 0, .int .i64 0, .int .i64 0, .int .i64 0]) := ⟨_, rfl⟩); have hbx : Below W0.heap.size W0 W2 := hW2 ▸ Below.setCells (Below.al (Below.refl _ _)) (Nat.le_refl _) _ _; have HA : Hid (Own W0.heap.size ([.int .i64 k, .slice none 0 0, .slice none 0 0, .slice none 0 0, .int .i64 0, .slice none 0 0, .int .i64 0, .int .i64 0, .int .i64 0, .int .i64 0, .int .i64 0, .int .i64 0, .int .i64 0, .int .i64 0, .int .i64 0, .int .i64 0, .int .i64 0, .int .i64 0, .int .i64 0, .int .i64 0, .int .i64 0, .int .i64 0, .int .i64 0, .int .i64 0]) W2) := Lib.hid (hW2 ▸ Own.store (Own.new _ [.int .i64 0, .slice none 0 0, .slice none 0 0, .slice none 0 0, .int .i64 0, .slice none 0 0, .int .i64 0, .int .i64 0, .int .i64 0, .int .i64 0, .int .i64 0, .int .i64 0, .int .i64 0, .int .i64 0, .int .i64 0, .int .i64 0, .int .i64 0, .int .i64 0, .int .i64 0, .int .i64 0, .int .i64 0, .int .i64 0, .int .i64 0, .int .i64 0] _) rfl); change wpList _ _ _ _ _ ((W0.alloc (.cells #[.int .i64 0, .slice none 0 0, .slice none 0 0, .slice none 0 0, .int .i64 0, .slice none 0 0, .int .i64 0, .int .i64 0, .int .i64 0, .int .i64 0, .int .i64 0, .int .i64 0, .int .i64 0, .int .i64 0, .int .i64 0, .int .i64 0, .int .i64 0, .int .i64 0, .int .i64 0, .int .i64 0, .int .i64 0, .int .i64 0, .int .i64 0, .int .i64 0] 37)).setCells W0.heap.size 0 ([.int .i64 k, .slice none 0 0, .slice none 0 0, .slice none 0 0, .int .i64 0, .slice none 0 0, .int .i64 0, .int .i64 0, .int .i64 0, .int .i64 0, .int .i64 0, .int .i64 0, .int .i64 0, .int .i64 0, .int .i64 0, .int .i64 0, .int .i64 0, .int .i64 0, .int .i64 0, .int .i64 0, .int .i64 0, .int .i64 0, .int .i64 0, .int .i64 0])); rw [← hW2]; clear hW2)
  have nRQ : R ≠ W0.heap.size := by have := HR.out.lt; omega
  have Qw : w.heap.size ≤ W0.heap.size := HB.out.size
  obtain ⟨Q, eQ⟩ : ∃ X, X = W0.heap.size := ⟨_, rfl⟩
  rw [← eQ] at HA nRQ Qw ⊢
  clear eQ
  have HR2 := Lib.hid (HR.out.later hbx); have HQ2 := Lib.hid (HQ0.out.later hbx); have HB2 := Lib.hid (Below.go HB.out hbx)
  clear HR HQ0 HB hbx
  go_upto_region 3 with fail
  obtain ⟨w3, hW⟩ : ∃ w3, w3 = (W2.alloc (.cells #[.slice q N c, .int .i64 0, .int .i64 0] 77)) := ⟨_, rfl⟩
  have hbx : Below W2.heap.size W2 w3 := hW ▸ (Below.al (Below.refl _ _))
  have HS : Hid (Own W2.heap.size ([.slice q N c, .int .i64 0, .int .i64 0]) w3) := Lib.hid (hW ▸ (show Own W2.heap.size ([.slice q N c, .int .i64 0, .int .i64 0]) (W2.alloc (.cells #[.slice q N c, .int .i64 0, .int .i64 0] 77)) from Own.newAt (by simp)))
  rw [← hW]
  clear hW
  obtain ⟨S, eS⟩ : ∃ X, X = W2.heap.size := ⟨_, rfl⟩
  rw [← eS] at HS ⊢
  have Sw : W2.heap.size ≤ S := by omega
  clear eS
  have HR3 := Lib.hid (HR2.out.later hbx); have HA3 := Lib.hid (HA.out.later hbx); have HQ3 := Lib.hid (HQ2.out.later hbx); have HB3 := Lib.hid (Below.go HB2.out hbx)
  have nRS : R ≠ S := by have := HR2.out.lt; omega
  have nQS : Q ≠ S := by have := HA.out.lt; omega
  clear HR2 HA HQ2 hbx
  have AA : Hid (AstAt (kinA k) w3) := Lib.hid (kinA_at _ _)
  have HA6 : Hid (Own Q [.int .i64 (kinA k).k, .slice (kinA k).M.qv (kinA k).M.nv (kinA k).M.cv, .slice (kinA k).M.qu (kinA k).M.nu (kinA k).M.cu, .slice (kinA k).M.qt (kinA k).M.nt (kinA k).M.ct, .int .i64 (kinA k).X.S, .slice (kinA k).X.q (kinA k).X.n (kinA k).X.c, .int .i64 ((kinA k).g 0), .int .i64 ((kinA k).g 1), .int .i64 ((kinA k).g 2), .int .i64 ((kinA k).g 3), .int .i64 ((kinA k).g 4), .int .i64 ((kinA k).l 0), .int .i64 ((kinA k).l 1), .int .i64 ((kinA k).l 2), .int .i64 ((kinA k).l 3), .int .i64 ((kinA k).l 4), .int .i64 ((kinA k).l 5), .int .i64 ((kinA k).l 6), .int .i64 ((kinA k).l 7), .int .i64 ((kinA k).l 8), .int .i64 ((kinA k).l 9), .int .i64 ((kinA k).l 10), .int .i64 ((kinA k).l 11), .int .i64 ((kinA k).l 12)] w3) := Lib.hid HA3.out
  clear HA3
  go_wp2_with (refine wpList_load_mid rfl 37 _ rfl Q 0 rfl ([.int .i64 (kinA k).k, .slice (kinA k).M.qv (kinA k).M.nv (kinA k).M.cv, .slice (kinA k).M.qu (kinA k).M.nu (kinA k).M.cu, .slice (kinA k).M.qt (kinA k).M.nt (kinA k).M.ct, .int .i64 (kinA k).X.S, .slice (kinA k).X.q (kinA k).X.n (kinA k).X.c, .int .i64 ((kinA k).g 0), .int .i64 ((kinA k).g 1), .int .i64 ((kinA k).g 2), .int .i64 ((kinA k).g 3), .int .i64 ((kinA k).g 4), .int .i64 ((kinA k).l 0), .int .i64 ((kinA k).l 1), .int .i64 ((kinA k).l 2), .int .i64 ((kinA k).l 3), .int .i64 ((kinA k).l 4), .int .i64 ((kinA k).l 5), .int .i64 ((kinA k).l 6), .int .i64 ((kinA k).l 7), .int .i64 ((kinA k).l 8), .int .i64 ((kinA k).l 9), .int .i64 ((kinA k).l 10), .int .i64 ((kinA k).l 11), .int .i64 ((kinA k).l 12)]) _ HA6.out.cell Tryd.underlying37 rfl (by kernel_rfl) ?_)
  go_at_call 14
  refine (CK.out (kinA k) (few_kin k) _ AA.out).mono ?_
  rintro e w9 ⟨rfl, hb⟩
  rw [C12.out]
  have HR9 := Lib.hid (HR3.out.later hb); have hBv := Below.go HB3.out hb
  clear HR3 AA HA6 HB3 hb CK
  go_wp2_with (refine wpList_store_mid rfl 37 _ _ rfl R 0 ([.int .i64 0, .slice none 0 0, .slice none 0 0, .slice none 0 0, .int .i64 0, .slice none 0 0, .int .i64 0, .int .i64 0, .int .i64 0, .int .i64 0, .int .i64 0, .int .i64 0, .int .i64 0, .int .i64 0, .int .i64 0, .int .i64 0, .int .i64 0, .int .i64 0, .int .i64 0, .int .i64 0, .int .i64 0, .int .i64 0, .int .i64 0, .int .i64 0]).toArray rfl rfl HR9.out.free (by kernel_rfl) (by simp [Value.oneCell']) ?_; change wpList _ _ _ _ _ (w9.setCells R 0 ([.int .i64 0, .slice none 0 0, .slice none 0 0, .slice none 0 0, .int .i64 0, .slice none 0 0, .int .i64 0, .int .i64 0, .int .i64 0, .int .i64 0, .int .i64 0, .int .i64 0, .int .i64 0, .int .i64 0, .int .i64 0, .int .i64 0, .int .i64 0, .int .i64 0, .int .i64 0, .int .i64 0, .int .i64 0, .int .i64 0, .int .i64 0, .int .i64 0])); have HRz : Hid (Own R ([.int .i64 0, .slice none 0 0, .slice none 0 0, .slice none 0 0, .int .i64 0, .slice none 0 0, .int .i64 0, .int .i64 0, .int .i64 0, .int .i64 0, .int .i64 0, .int .i64 0, .int .i64 0, .int .i64 0, .int .i64 0, .int .i64 0, .int .i64 0, .int .i64 0, .int .i64 0, .int .i64 0, .int .i64 0, .int .i64 0, .int .i64 0, .int .i64 0]) (w9.setCells R 0 ([.int .i64 0, .slice none 0 0, .slice none 0 0, .slice none 0 0, .int .i64 0, .slice none 0 0, .int .i64 0, .int .i64 0, .int .i64 0, .int .i64 0, .int .i64 0, .int .i64 0, .int .i64 0, .int .i64 0, .int .i64 0, .int .i64 0, .int .i64 0, .int .i64 0, .int .i64 0, .int .i64 0, .int .i64 0, .int .i64 0, .int .i64 0, .int .i64 0]))) := Lib.hid (Own.store HR9.out rfl); have hBz : Below w.heap.size w (w9.setCells R 0 ([.int .i64 0, .slice none 0 0, .slice none 0 0, .slice none 0 0, .int .i64 0, .slice none 0 0, .int .i64 0, .int .i64 0, .int .i64 0, .int .i64 0, .int .i64 0, .int .i64 0, .int .i64 0, .int .i64 0, .int .i64 0, .int .i64 0, .int .i64 0, .int .i64 0, .int .i64 0, .int .i64 0, .int .i64 0, .int .i64 0, .int .i64 0, .int .i64 0])) := Below.setCells hBv Rw _ _; generalize w9.setCells R 0 ([.int .i64 0, .slice none 0 0, .slice none 0 0, .slice none 0 0, .int .i64 0, .slice none 0 0, .int .i64 0, .int .i64 0, .int .i64 0, .int .i64 0, .int .i64 0, .int .i64 0, .int .i64 0, .int .i64 0, .int .i64 0, .int .i64 0, .int .i64 0, .int .i64 0, .int .i64 0, .int .i64 0, .int .i64 0, .int .i64 0, .int .i64 0, .int .i64 0]) = wz at *)
  have hL := run_loadVar_mid (P := Tryd.prog) _ R 0 37 ([.int .i64 0, .slice none 0 0, .slice none 0 0, .slice none 0 0, .int .i64 0, .slice none 0 0, .int .i64 0, .int .i64 0, .int .i64 0, .int .i64 0, .int .i64 0, .int .i64 0, .int .i64 0, .int .i64 0, .int .i64 0, .int .i64 0, .int .i64 0, .int .i64 0, .int .i64 0, .int .i64 0, .int .i64 0, .int .i64 0, .int .i64 0, .int .i64 0]) _ HRz.out.cell Tryd.underlying37 rfl (by kernel_rfl)
  exact bodyPost_ret (v := .tuple #[.agg ([.int .i64 0, .slice none 0 0, .slice none 0 0, .slice none 0 0, .int .i64 0, .slice none 0 0, .int .i64 0, .int .i64 0, .int .i64 0, .int .i64 0, .int .i64 0, .int .i64 0, .int .i64 0, .int .i64 0, .int .i64 0, .int .i64 0, .int .i64 0, .int .i64 0, .int .i64 0, .int .i64 0, .int .i64 0, .int .i64 0, .int .i64 0, .int .i64 0]).toArray, .int .i64 12]) (res_two Tryd.results20 rfl hL rfl) rfl ⟨⟨kinA 0, rfl, kinA_at _ _, few_kin 0, by first | exact ⟨fun h => absurd h (by decide), fun _ => EqA.refl _⟩ | exact EqA.refl _⟩, hBz⟩
theorem ARDecode_any (k : Int) (F : Nat → Int) (q : Option Addr) (N c : Nat) (hF : ∀ j, j < N → inB (F j)) (hNc : N ≤ c) (hcx : c ≤ 9223372036854775807) (hN : N ≤ 900) (w : World) (hq : Byt w q N F) :
    Calls Tryd.prog 20 #[.int .i64 k, .slice q N c] w fun e w' => (∃ A, e = .returned (.tuple #[(.agg #[.int .i64 A.k, .slice A.M.qv A.M.nv A.M.cv, .slice A.M.qu A.M.nu A.M.cu, .slice A.M.qt A.M.nt A.M.ct, .int .i64 A.X.S, .slice A.X.q A.X.n A.X.c, .int .i64 (A.g 0), .int .i64 (A.g 1), .int .i64 (A.g 2), .int .i64 (A.g 3), .int .i64 (A.g 4), .int .i64 (A.l 0), .int .i64 (A.l 1), .int .i64 (A.l 2), .int .i64 (A.l 3), .int .i64 (A.l 4), .int .i64 (A.l 5), .int .i64 (A.l 6), .int .i64 (A.l 7), .int .i64 (A.l 8), .int .i64 (A.l 9), .int .i64 (A.l 10), .int .i64 (A.l 11), .int .i64 (A.l 12)]), .int .i64 (decEA k F N)]) ∧ AstAt A w' ∧ FewA A ∧ (decEA k F N = 0 → EqA A (decA k F N)) ∧ (decEA k F N ≠ 0 → EqA A (kinA 0))) ∧ Below w.heap.size w w' := by
  by_cases k1 : k = 1
  · subst k1; exact RDec_1 F q N c hF hNc hcx hN w hq
  by_cases k2 : k = 2
  · subst k2; exact RDec_2 F q N c hF hNc hcx hN w hq
  by_cases k3 : k = 3
  · subst k3; exact RDec_3 F q N c hF hNc hcx hN w hq
  by_cases k4 : k = 4
  · subst k4; exact RDec_4 F q N c hF hNc hcx hN w hq
  exact RDec_0 k ⟨k1, k2, k3, k4⟩ F q N c hF hNc hcx hN w hq
end Go.Proofs.YtokfhhngnpbdkaaDoor
