/- asset: the document's Decode. -/
import Derived.Test.YtokfhhngnpbdkaaDoorJd
import Derived.Test.YtokfhhngnpbdkaaDoorIX
import Derived.Lib.Hide
import Derived.LoopN
import Derived.LoopTactic
import Derived.Deep.Onto
import Derived.Deep.RegionHeld3
import Derived.Deep.QuietTactic
import Derived.BigQuiet
import Derived.Great.BuildSlice
import Derived.StillTailTactics
import Derived.Lib.SliceRun
import Derived.OrdersHeld
namespace Go.Proofs.YtokfhhngnpbdkaaDoor
set_option linter.unusedVariables false
set_option maxRecDepth 2000
set_option linter.unusedSimpArgs false
open Go.RowKit
set_option maxHeartbeats 16000000 in
theorem RDec_1 (F : Nat → Int) (q : Option Addr) (N c : Nat) (hF : ∀ j, j < N → inB (F j)) (hNc : N ≤ c) (hcx : c ≤ 9223372036854775807) (hN : N ≤ 900) (w : World) (hq : Byt w q N F) :
    Calls Tryd.prog 20 #[.int .i64 1, .slice q N c] w fun e w' => (∃ A, e = .returned (.tuple #[(.agg #[.int .i64 A.k, .slice A.M.qv A.M.nv A.M.cv, .slice A.M.qu A.M.nu A.M.cu, .slice A.M.qt A.M.nt A.M.ct, .int .i64 A.X.S, .slice A.X.q A.X.n A.X.c, .int .i64 (A.g 0), .int .i64 (A.g 1), .int .i64 (A.g 2), .int .i64 (A.g 3), .int .i64 (A.g 4), .int .i64 (A.l 0), .int .i64 (A.l 1), .int .i64 (A.l 2), .int .i64 (A.l 3), .int .i64 (A.l 4), .int .i64 (A.l 5), .int .i64 (A.l 6), .int .i64 (A.l 7), .int .i64 (A.l 8), .int .i64 (A.l 9), .int .i64 (A.l 10), .int .i64 (A.l 11), .int .i64 (A.l 12)]), .int .i64 (decEA 1 F N)]) ∧ AstAt A w' ∧ FewA A ∧ (decEA 1 F N = 0 → EqA A (decA 1 F N)) ∧ (decEA 1 F N ≠ 0 → EqA A (kinA 0))) ∧ Below w.heap.size w w' := by
  have HQ := Lib.hid hq
  have CON := Lib.hid (fun w h => RDecode_any F q N c hF hNc hcx (by omega) w h)
  have CK := Lib.hid (fun A (hf : FewA A) w h => RACheck_any A hf w h)
  have EZ : Hid (decEA 1 F N = if decE F N = 0 then chkA (decA 1 F N) else decE F N) := Lib.hid rfl
  have HF := Lib.hid hF
  obtain ⟨z, ez⟩ : ∃ z, decE F N = z := ⟨_, rfl⟩
  have ZE := Lib.hid ez
  rw [ez] at EZ CON
  obtain ⟨y, ey⟩ : ∃ y, decEA 1 F N = y := ⟨_, rfl⟩
  rw [ey] at EZ ⊢
  clear ey
  clear hF hNc hcx hq ez
  have HN := Lib.hid hN
  clear hN
  go_enter Tryd.func20, Tryd.ntmps20
  go_upto_region 1 with fail
  obtain ⟨W0, hW⟩ : ∃ W0, W0 = (w.alloc (.cells #[.int .i64 0, .slice none 0 0, .slice none 0 0, .slice none 0 0, .int .i64 0, .slice none 0 0, .int .i64 0, .int .i64 0, .int .i64 0, .int .i64 0, .int .i64 0, .int .i64 0, .int .i64 0, .int .i64 0, .int .i64 0, .int .i64 0, .int .i64 0, .int .i64 0, .int .i64 0, .int .i64 0, .int .i64 0, .int .i64 0, .int .i64 0, .int .i64 0] 37)) := ⟨_, rfl⟩
  have hB0 : Below w.heap.size w W0 := hW ▸ (Below.al (Below.refl _ _))
  have HR : Hid (Own w.heap.size ([.int .i64 0, .slice none 0 0, .slice none 0 0, .slice none 0 0, .int .i64 0, .slice none 0 0, .int .i64 0, .int .i64 0, .int .i64 0, .int .i64 0, .int .i64 0, .int .i64 0, .int .i64 0, .int .i64 0, .int .i64 0, .int .i64 0, .int .i64 0, .int .i64 0, .int .i64 0, .int .i64 0, .int .i64 0, .int .i64 0, .int .i64 0, .int .i64 0]) W0) := Lib.hid (hW ▸ (show Own w.heap.size ([.int .i64 0, .slice none 0 0, .slice none 0 0, .slice none 0 0, .int .i64 0, .slice none 0 0, .int .i64 0, .int .i64 0, .int .i64 0, .int .i64 0, .int .i64 0, .int .i64 0, .int .i64 0, .int .i64 0, .int .i64 0, .int .i64 0, .int .i64 0, .int .i64 0, .int .i64 0, .int .i64 0, .int .i64 0, .int .i64 0, .int .i64 0, .int .i64 0]) (w.alloc (.cells #[.int .i64 0, .slice none 0 0, .slice none 0 0, .slice none 0 0, .int .i64 0, .slice none 0 0, .int .i64 0, .int .i64 0, .int .i64 0, .int .i64 0, .int .i64 0, .int .i64 0, .int .i64 0, .int .i64 0, .int .i64 0, .int .i64 0, .int .i64 0, .int .i64 0, .int .i64 0, .int .i64 0, .int .i64 0, .int .i64 0, .int .i64 0, .int .i64 0] 37)) from Own.newAt (by simp)))
  rw [← hW]
  clear hW
  obtain ⟨R, eR⟩ : ∃ X, X = w.heap.size := ⟨_, rfl⟩
  rw [← eR] at HR ⊢
  have Rw : w.heap.size ≤ R := by omega
  clear eR
  have HQ0 := Lib.hid (HQ.out.later hB0)
  have HB := Lib.hid hB0
  clear HQ hB0
  go_upto_region 2 with (refine wpList_store_mid rfl 37 _ _ rfl _ 0 #[.int .i64 1, .slice none 0 0, .slice none 0 0, .slice none 0 0, .int .i64 0, .slice none 0 0, .int .i64 0, .int .i64 0, .int .i64 0, .int .i64 0, .int .i64 0, .int .i64 0, .int .i64 0, .int .i64 0, .int .i64 0, .int .i64 0, .int .i64 0, .int .i64 0, .int .i64 0, .int .i64 0, .int .i64 0, .int .i64 0, .int .i64 0, .int .i64 0] rfl rfl (there_newn (cs := [.int .i64 0, .slice none 0 0, .slice none 0 0, .slice none 0 0, .int .i64 0, .slice none 0 0, .int .i64 0, .int .i64 0, .int .i64 0, .int .i64 0, .int .i64 0, .int .i64 0, .int .i64 0, .int .i64 0, .int .i64 0, .int .i64 0, .int .i64 0, .int .i64 0, .int .i64 0, .int .i64 0, .int .i64 0, .int .i64 0, .int .i64 0, .int .i64 0]) (by simp)) (by kernel_rfl) (by simp [Value.oneCell']) ?_; (obtain ⟨W2, hW2⟩ : ∃ W, W = (W0.alloc (.cells #[.int .i64 0, .slice none 0 0, .slice none 0 0, .slice none 0 0, .int .i64 0, .slice none 0 0, .int .i64 0, .int .i64 0, .int .i64 0, .int .i64 0, .int .i64 0, .int .i64 0, .int .i64 0, .int .i64 0, .int .i64 0, .int .i64 0, .int .i64 0, .int .i64 0, .int .i64 0, .int .i64 0, .int .i64 0, .int .i64 0, .int .i64 0, .int .i64 0] 37)).setCells W0.heap.size 0 ([.int .i64 1, .slice none 0 0, .slice none 0 0, .slice none 0 0, .int .i64 0, .slice none 0 0, .int .i64 0, .int .i64 0, .int .i64 0, .int .i64 0, .int .i64 0, .int .i64 0, .int .i64 0, .int .i64 0, .int .i64 0, .int .i64 0, .int .i64 0, .int .i64 0, .int .i64 0, .int .i64 0, .int .i64 0, .int .i64 0, .int .i64 0, .int .i64 0]) := ⟨_, rfl⟩); have hbx : Below W0.heap.size W0 W2 := hW2 ▸ Below.setCells (Below.al (Below.refl _ _)) (Nat.le_refl _) _ _; have HA : Hid (Own W0.heap.size ([.int .i64 1, .slice none 0 0, .slice none 0 0, .slice none 0 0, .int .i64 0, .slice none 0 0, .int .i64 0, .int .i64 0, .int .i64 0, .int .i64 0, .int .i64 0, .int .i64 0, .int .i64 0, .int .i64 0, .int .i64 0, .int .i64 0, .int .i64 0, .int .i64 0, .int .i64 0, .int .i64 0, .int .i64 0, .int .i64 0, .int .i64 0, .int .i64 0]) W2) := Lib.hid (hW2 ▸ Own.store (Own.new _ [.int .i64 0, .slice none 0 0, .slice none 0 0, .slice none 0 0, .int .i64 0, .slice none 0 0, .int .i64 0, .int .i64 0, .int .i64 0, .int .i64 0, .int .i64 0, .int .i64 0, .int .i64 0, .int .i64 0, .int .i64 0, .int .i64 0, .int .i64 0, .int .i64 0, .int .i64 0, .int .i64 0, .int .i64 0, .int .i64 0, .int .i64 0, .int .i64 0] _) rfl); change wpList _ _ _ _ _ ((W0.alloc (.cells #[.int .i64 0, .slice none 0 0, .slice none 0 0, .slice none 0 0, .int .i64 0, .slice none 0 0, .int .i64 0, .int .i64 0, .int .i64 0, .int .i64 0, .int .i64 0, .int .i64 0, .int .i64 0, .int .i64 0, .int .i64 0, .int .i64 0, .int .i64 0, .int .i64 0, .int .i64 0, .int .i64 0, .int .i64 0, .int .i64 0, .int .i64 0, .int .i64 0] 37)).setCells W0.heap.size 0 ([.int .i64 1, .slice none 0 0, .slice none 0 0, .slice none 0 0, .int .i64 0, .slice none 0 0, .int .i64 0, .int .i64 0, .int .i64 0, .int .i64 0, .int .i64 0, .int .i64 0, .int .i64 0, .int .i64 0, .int .i64 0, .int .i64 0, .int .i64 0, .int .i64 0, .int .i64 0, .int .i64 0, .int .i64 0, .int .i64 0, .int .i64 0, .int .i64 0])); rw [← hW2]; clear hW2)
  have nRQ : R ≠ W0.heap.size := by have := HR.out.lt; omega
  have Qw : w.heap.size ≤ W0.heap.size := HB.out.size
  obtain ⟨Q, eQ⟩ : ∃ X, X = W0.heap.size := ⟨_, rfl⟩
  rw [← eQ] at HA nRQ Qw ⊢
  clear eQ
  have HR2 := Lib.hid (HR.out.later hbx); have HQ2 := Lib.hid (HQ0.out.later hbx); have HB2 := Lib.hid (Below.go HB.out hbx)
  clear HR HQ0 HB hbx
  go_upto_region 3 with fail
  obtain ⟨w3, hW⟩ : ∃ w3, w3 = (W2.alloc (.cells #[.slice q N c, .int .i64 0, .int .i64 0] 77)) := ⟨_, rfl⟩
  have hbx : Below W2.heap.size W2 w3 := hW ▸ (Below.al (Below.refl _ _))
  have HS : Hid (Own W2.heap.size ([.slice q N c, .int .i64 0, .int .i64 0]) w3) := Lib.hid (hW ▸ (show Own W2.heap.size ([.slice q N c, .int .i64 0, .int .i64 0]) (W2.alloc (.cells #[.slice q N c, .int .i64 0, .int .i64 0] 77)) from Own.newAt (by simp)))
  rw [← hW]
  clear hW
  obtain ⟨S, eS⟩ : ∃ X, X = W2.heap.size := ⟨_, rfl⟩
  rw [← eS] at HS ⊢
  have Sw : W2.heap.size ≤ S := by omega
  clear eS
  have HR3 := Lib.hid (HR2.out.later hbx); have HA3 := Lib.hid (HA.out.later hbx); have HQ3 := Lib.hid (HQ2.out.later hbx); have HB3 := Lib.hid (Below.go HB2.out hbx)
  have nRS : R ≠ S := by have := HR2.out.lt; omega
  have nQS : Q ≠ S := by have := HA.out.lt; omega
  clear HR2 HA HQ2 hbx
  go_wp2_with (fail)
  go_at_call 37
  refine (CON.out _ HQ3.out).mono ?_
  rintro e w4 ⟨⟨M, rfl, hM, hD⟩, hb⟩
  have HR4 := Lib.hid (HR3.out.later hb); have HA4 := Lib.hid (HA3.out.later hb); have HB4 := Lib.hid (Below.go HB3.out hb)
  have MM := Lib.hid hM; have DD := Lib.hid hD
  clear hM hD hb HR3 HA3 HB3 HQ3 HS CON
  have oQ := HA4.out
  have Q1 := oQ.at 1 _ rfl
  have Qf1 := oQ.ok 1 (by simp)
  have Q2 := oQ.at 2 _ rfl
  have Qf2 := oQ.ok 2 (by simp)
  have Q3 := oQ.at 3 _ rfl
  have Qf3 := oQ.ok 3 (by simp)
  have Ql := oQ.lt
  clear oQ
  go_upto_region 21 with fail
  clear Q1 Qf1 Q2 Qf2 Q3 Qf3 Ql
  rw [show (((w4.setCell ⟨Q, 1, none⟩ (.slice M.qv M.nv M.cv)).setCell ⟨Q, 2, none⟩ (.slice M.qu M.nu M.cu)).setCell ⟨Q, 3, none⟩ (.slice M.qt M.nt M.ct)) = w4.setCells Q 1 [.slice M.qv M.nv M.cv, .slice M.qu M.nu M.cu, .slice M.qt M.nt M.ct] from rfl]
  have HA5 : Hid (Own Q ([.int .i64 1, .slice M.qv M.nv M.cv, .slice M.qu M.nu M.cu, .slice M.qt M.nt M.ct, .int .i64 0, .slice none 0 0, .int .i64 0, .int .i64 0, .int .i64 0, .int .i64 0, .int .i64 0, .int .i64 0, .int .i64 0, .int .i64 0, .int .i64 0, .int .i64 0, .int .i64 0, .int .i64 0, .int .i64 0, .int .i64 0, .int .i64 0, .int .i64 0, .int .i64 0, .int .i64 0]) (w4.setCells Q 1 [.slice M.qv M.nv M.cv, .slice M.qu M.nu M.cu, .slice M.qt M.nt M.ct])) := Lib.hid (show Own Q (over _ 1 [.slice M.qv M.nv M.cv, .slice M.qu M.nu M.cu, .slice M.qt M.nt M.ct]) _ from Own.part HA4.out (by simp))
  have HB5 : Hid (Below w.heap.size w (w4.setCells Q 1 [.slice M.qv M.nv M.cv, .slice M.qu M.nu M.cu, .slice M.qt M.nt M.ct])) := Lib.hid (Below.setCells HB4.out Qw _ _)
  have HR5 : Hid (Own R [.int .i64 0, .slice none 0 0, .slice none 0 0, .slice none 0 0, .int .i64 0, .slice none 0 0, .int .i64 0, .int .i64 0, .int .i64 0, .int .i64 0, .int .i64 0, .int .i64 0, .int .i64 0, .int .i64 0, .int .i64 0, .int .i64 0, .int .i64 0, .int .i64 0, .int .i64 0, .int .i64 0, .int .i64 0, .int .i64 0, .int .i64 0, .int .i64 0] (w4.setCells Q 1 [.slice M.qv M.nv M.cv, .slice M.qu M.nu M.cu, .slice M.qt M.nt M.ct])) := Lib.hid (Own.far HR4.out nRQ)
  have hM3 := MeshAt.far3 MM.out HA4.out (vs := [.slice M.qv M.nv M.cv, .slice M.qu M.nu M.cu, .slice M.qt M.nt M.ct]) rfl
  clear HA4 HB4 HR4 MM
  generalize w4.setCells Q 1 [.slice M.qv M.nv M.cv, .slice M.qu M.nu M.cu, .slice M.qt M.nt M.ct] = w5 at *
  obtain ⟨A, eA⟩ : ∃ A : Ast, A = ⟨1, M, nilX, fun _ => 0, fun _ => 0⟩ := ⟨_, rfl⟩
  have f := fewM_dec HF.out DD.out
  have FF : Hid (FewA A) := Lib.hid (by rw [eA]; exact ⟨Nat.le_trans f.1 (by decide), Nat.le_trans f.2.1 (by decide), Nat.le_trans f.2.2 (by decide), Nat.zero_le _⟩)
  have EE : Hid (z = 0 → EqA A (decA 1 F N)) := Lib.hid (fun hz => by
    rw [eA]
    obtain ⟨h1, h2, h3, h4, h5, h6⟩ := DD.out.yes (ZE.out.trans hz)
    obtain ⟨qv, nv, cv, V, qu, nu, cu, U, qt, nt, ct, R⟩ := M
    dsimp only at h1 h2 h3 h4 h5 h6
    subst h1 h2 h3 h4 h5 h6
    exact ⟨rfl, ⟨rfl, fun _ _ => rfl⟩, ⟨rfl, fun _ _ => rfl⟩, ⟨rfl, fun _ _ => rfl⟩, rfl, ⟨rfl, fun _ _ => rfl⟩, fun _ _ => rfl, fun _ _ => rfl⟩)
  have AA : Hid (AstAt A w5) := Lib.hid (by rw [eA]; exact ⟨hM3, nilX_at _⟩)
  have LL : Hid (LoneA A) := Lib.hid (by rw [eA]; exact .inl ⟨rfl, rfl⟩)
  have HA6 : Hid (Own Q [.int .i64 A.k, .slice A.M.qv A.M.nv A.M.cv, .slice A.M.qu A.M.nu A.M.cu, .slice A.M.qt A.M.nt A.M.ct, .int .i64 A.X.S, .slice A.X.q A.X.n A.X.c, .int .i64 (A.g 0), .int .i64 (A.g 1), .int .i64 (A.g 2), .int .i64 (A.g 3), .int .i64 (A.g 4), .int .i64 (A.l 0), .int .i64 (A.l 1), .int .i64 (A.l 2), .int .i64 (A.l 3), .int .i64 (A.l 4), .int .i64 (A.l 5), .int .i64 (A.l 6), .int .i64 (A.l 7), .int .i64 (A.l 8), .int .i64 (A.l 9), .int .i64 (A.l 10), .int .i64 (A.l 11), .int .i64 (A.l 12)] w5) := Lib.hid (by rw [eA]; exact HA5.out)
  clear HA5 hM3 eA DD ZE HF f
  by_cases hz : z = 0
  · subst hz
    have EA_ := Lib.hid (EE.out rfl)
    rw [if_pos rfl, ← chkA_congr EA_.out] at EZ
    go_wp2_with (refine wpList_load_mid rfl 37 _ rfl Q 0 rfl ([.int .i64 A.k, .slice A.M.qv A.M.nv A.M.cv, .slice A.M.qu A.M.nu A.M.cu, .slice A.M.qt A.M.nt A.M.ct, .int .i64 A.X.S, .slice A.X.q A.X.n A.X.c, .int .i64 (A.g 0), .int .i64 (A.g 1), .int .i64 (A.g 2), .int .i64 (A.g 3), .int .i64 (A.g 4), .int .i64 (A.l 0), .int .i64 (A.l 1), .int .i64 (A.l 2), .int .i64 (A.l 3), .int .i64 (A.l 4), .int .i64 (A.l 5), .int .i64 (A.l 6), .int .i64 (A.l 7), .int .i64 (A.l 8), .int .i64 (A.l 9), .int .i64 (A.l 10), .int .i64 (A.l 11), .int .i64 (A.l 12)]) _ HA6.out.cell Tryd.underlying37 rfl (by kernel_rfl) ?_)
    go_at_call 14
    refine (CK.out A FF.out _ AA.out).mono ?_
    rintro e w9 ⟨rfl, hb⟩
    have HR9 := Lib.hid (HR5.out.later hb); have A9 := Lib.hid (AA.out.later hb); have HA9 := Lib.hid (HA6.out.later hb); have hBv := Below.go HB5.out hb
    clear HR5 AA HA6 HB5 hb CK
    rw [← EZ.out]
    clear EZ
    by_cases hy : y = 0
    · subst hy
      go_wp2_with (first | (refine wpList_load_mid rfl 37 _ rfl Q 0 rfl ([.int .i64 A.k, .slice A.M.qv A.M.nv A.M.cv, .slice A.M.qu A.M.nu A.M.cu, .slice A.M.qt A.M.nt A.M.ct, .int .i64 A.X.S, .slice A.X.q A.X.n A.X.c, .int .i64 (A.g 0), .int .i64 (A.g 1), .int .i64 (A.g 2), .int .i64 (A.g 3), .int .i64 (A.g 4), .int .i64 (A.l 0), .int .i64 (A.l 1), .int .i64 (A.l 2), .int .i64 (A.l 3), .int .i64 (A.l 4), .int .i64 (A.l 5), .int .i64 (A.l 6), .int .i64 (A.l 7), .int .i64 (A.l 8), .int .i64 (A.l 9), .int .i64 (A.l 10), .int .i64 (A.l 11), .int .i64 (A.l 12)]) _ HA9.out.cell Tryd.underlying37 rfl (by kernel_rfl) ?_) | (refine wpList_store_mid rfl 37 _ _ rfl R 0 ([.int .i64 A.k, .slice A.M.qv A.M.nv A.M.cv, .slice A.M.qu A.M.nu A.M.cu, .slice A.M.qt A.M.nt A.M.ct, .int .i64 A.X.S, .slice A.X.q A.X.n A.X.c, .int .i64 (A.g 0), .int .i64 (A.g 1), .int .i64 (A.g 2), .int .i64 (A.g 3), .int .i64 (A.g 4), .int .i64 (A.l 0), .int .i64 (A.l 1), .int .i64 (A.l 2), .int .i64 (A.l 3), .int .i64 (A.l 4), .int .i64 (A.l 5), .int .i64 (A.l 6), .int .i64 (A.l 7), .int .i64 (A.l 8), .int .i64 (A.l 9), .int .i64 (A.l 10), .int .i64 (A.l 11), .int .i64 (A.l 12)]).toArray rfl rfl HR9.out.free (by kernel_rfl) (by simp [Value.oneCell']) ?_; change wpList _ _ _ _ _ (w9.setCells R 0 ([.int .i64 A.k, .slice A.M.qv A.M.nv A.M.cv, .slice A.M.qu A.M.nu A.M.cu, .slice A.M.qt A.M.nt A.M.ct, .int .i64 A.X.S, .slice A.X.q A.X.n A.X.c, .int .i64 (A.g 0), .int .i64 (A.g 1), .int .i64 (A.g 2), .int .i64 (A.g 3), .int .i64 (A.g 4), .int .i64 (A.l 0), .int .i64 (A.l 1), .int .i64 (A.l 2), .int .i64 (A.l 3), .int .i64 (A.l 4), .int .i64 (A.l 5), .int .i64 (A.l 6), .int .i64 (A.l 7), .int .i64 (A.l 8), .int .i64 (A.l 9), .int .i64 (A.l 10), .int .i64 (A.l 11), .int .i64 (A.l 12)])); have HRz : Hid (Own R ([.int .i64 A.k, .slice A.M.qv A.M.nv A.M.cv, .slice A.M.qu A.M.nu A.M.cu, .slice A.M.qt A.M.nt A.M.ct, .int .i64 A.X.S, .slice A.X.q A.X.n A.X.c, .int .i64 (A.g 0), .int .i64 (A.g 1), .int .i64 (A.g 2), .int .i64 (A.g 3), .int .i64 (A.g 4), .int .i64 (A.l 0), .int .i64 (A.l 1), .int .i64 (A.l 2), .int .i64 (A.l 3), .int .i64 (A.l 4), .int .i64 (A.l 5), .int .i64 (A.l 6), .int .i64 (A.l 7), .int .i64 (A.l 8), .int .i64 (A.l 9), .int .i64 (A.l 10), .int .i64 (A.l 11), .int .i64 (A.l 12)]) (w9.setCells R 0 ([.int .i64 A.k, .slice A.M.qv A.M.nv A.M.cv, .slice A.M.qu A.M.nu A.M.cu, .slice A.M.qt A.M.nt A.M.ct, .int .i64 A.X.S, .slice A.X.q A.X.n A.X.c, .int .i64 (A.g 0), .int .i64 (A.g 1), .int .i64 (A.g 2), .int .i64 (A.g 3), .int .i64 (A.g 4), .int .i64 (A.l 0), .int .i64 (A.l 1), .int .i64 (A.l 2), .int .i64 (A.l 3), .int .i64 (A.l 4), .int .i64 (A.l 5), .int .i64 (A.l 6), .int .i64 (A.l 7), .int .i64 (A.l 8), .int .i64 (A.l 9), .int .i64 (A.l 10), .int .i64 (A.l 11), .int .i64 (A.l 12)]))) := Lib.hid (Own.store HR9.out rfl); have hBz : Below w.heap.size w (w9.setCells R 0 ([.int .i64 A.k, .slice A.M.qv A.M.nv A.M.cv, .slice A.M.qu A.M.nu A.M.cu, .slice A.M.qt A.M.nt A.M.ct, .int .i64 A.X.S, .slice A.X.q A.X.n A.X.c, .int .i64 (A.g 0), .int .i64 (A.g 1), .int .i64 (A.g 2), .int .i64 (A.g 3), .int .i64 (A.g 4), .int .i64 (A.l 0), .int .i64 (A.l 1), .int .i64 (A.l 2), .int .i64 (A.l 3), .int .i64 (A.l 4), .int .i64 (A.l 5), .int .i64 (A.l 6), .int .i64 (A.l 7), .int .i64 (A.l 8), .int .i64 (A.l 9), .int .i64 (A.l 10), .int .i64 (A.l 11), .int .i64 (A.l 12)])) := Below.setCells hBv Rw _ _; have Az := Lib.hid (AstAt.put LL.out A9.out HR9.out); generalize w9.setCells R 0 ([.int .i64 A.k, .slice A.M.qv A.M.nv A.M.cv, .slice A.M.qu A.M.nu A.M.cu, .slice A.M.qt A.M.nt A.M.ct, .int .i64 A.X.S, .slice A.X.q A.X.n A.X.c, .int .i64 (A.g 0), .int .i64 (A.g 1), .int .i64 (A.g 2), .int .i64 (A.g 3), .int .i64 (A.g 4), .int .i64 (A.l 0), .int .i64 (A.l 1), .int .i64 (A.l 2), .int .i64 (A.l 3), .int .i64 (A.l 4), .int .i64 (A.l 5), .int .i64 (A.l 6), .int .i64 (A.l 7), .int .i64 (A.l 8), .int .i64 (A.l 9), .int .i64 (A.l 10), .int .i64 (A.l 11), .int .i64 (A.l 12)]) = wz at *))
      have hL := run_loadVar_mid (P := Tryd.prog) _ R 0 37 ([.int .i64 A.k, .slice A.M.qv A.M.nv A.M.cv, .slice A.M.qu A.M.nu A.M.cu, .slice A.M.qt A.M.nt A.M.ct, .int .i64 A.X.S, .slice A.X.q A.X.n A.X.c, .int .i64 (A.g 0), .int .i64 (A.g 1), .int .i64 (A.g 2), .int .i64 (A.g 3), .int .i64 (A.g 4), .int .i64 (A.l 0), .int .i64 (A.l 1), .int .i64 (A.l 2), .int .i64 (A.l 3), .int .i64 (A.l 4), .int .i64 (A.l 5), .int .i64 (A.l 6), .int .i64 (A.l 7), .int .i64 (A.l 8), .int .i64 (A.l 9), .int .i64 (A.l 10), .int .i64 (A.l 11), .int .i64 (A.l 12)]) _ HRz.out.cell Tryd.underlying37 rfl (by kernel_rfl)
      exact bodyPost_ret (v := .tuple #[.agg ([.int .i64 A.k, .slice A.M.qv A.M.nv A.M.cv, .slice A.M.qu A.M.nu A.M.cu, .slice A.M.qt A.M.nt A.M.ct, .int .i64 A.X.S, .slice A.X.q A.X.n A.X.c, .int .i64 (A.g 0), .int .i64 (A.g 1), .int .i64 (A.g 2), .int .i64 (A.g 3), .int .i64 (A.g 4), .int .i64 (A.l 0), .int .i64 (A.l 1), .int .i64 (A.l 2), .int .i64 (A.l 3), .int .i64 (A.l 4), .int .i64 (A.l 5), .int .i64 (A.l 6), .int .i64 (A.l 7), .int .i64 (A.l 8), .int .i64 (A.l 9), .int .i64 (A.l 10), .int .i64 (A.l 11), .int .i64 (A.l 12)]).toArray, .int .i64 0]) (res_two Tryd.results20 rfl hL rfl) rfl ⟨⟨A, rfl, Az.out, FF.out, by first | exact ⟨fun _ => EA_.out, fun h => absurd rfl h⟩ | exact EA_.out⟩, hBz⟩
    · have hd : (y != 0) = true := by simpa using hy
      go_wp2_with (refine wpList_store_mid rfl 37 _ _ rfl R 0 ([.int .i64 0, .slice none 0 0, .slice none 0 0, .slice none 0 0, .int .i64 0, .slice none 0 0, .int .i64 0, .int .i64 0, .int .i64 0, .int .i64 0, .int .i64 0, .int .i64 0, .int .i64 0, .int .i64 0, .int .i64 0, .int .i64 0, .int .i64 0, .int .i64 0, .int .i64 0, .int .i64 0, .int .i64 0, .int .i64 0, .int .i64 0, .int .i64 0]).toArray rfl rfl HR9.out.free (by kernel_rfl) (by simp [Value.oneCell']) ?_; change wpList _ _ _ _ _ (w9.setCells R 0 ([.int .i64 0, .slice none 0 0, .slice none 0 0, .slice none 0 0, .int .i64 0, .slice none 0 0, .int .i64 0, .int .i64 0, .int .i64 0, .int .i64 0, .int .i64 0, .int .i64 0, .int .i64 0, .int .i64 0, .int .i64 0, .int .i64 0, .int .i64 0, .int .i64 0, .int .i64 0, .int .i64 0, .int .i64 0, .int .i64 0, .int .i64 0, .int .i64 0])); have HRz : Hid (Own R ([.int .i64 0, .slice none 0 0, .slice none 0 0, .slice none 0 0, .int .i64 0, .slice none 0 0, .int .i64 0, .int .i64 0, .int .i64 0, .int .i64 0, .int .i64 0, .int .i64 0, .int .i64 0, .int .i64 0, .int .i64 0, .int .i64 0, .int .i64 0, .int .i64 0, .int .i64 0, .int .i64 0, .int .i64 0, .int .i64 0, .int .i64 0, .int .i64 0]) (w9.setCells R 0 ([.int .i64 0, .slice none 0 0, .slice none 0 0, .slice none 0 0, .int .i64 0, .slice none 0 0, .int .i64 0, .int .i64 0, .int .i64 0, .int .i64 0, .int .i64 0, .int .i64 0, .int .i64 0, .int .i64 0, .int .i64 0, .int .i64 0, .int .i64 0, .int .i64 0, .int .i64 0, .int .i64 0, .int .i64 0, .int .i64 0, .int .i64 0, .int .i64 0]))) := Lib.hid (Own.store HR9.out rfl); have hBz : Below w.heap.size w (w9.setCells R 0 ([.int .i64 0, .slice none 0 0, .slice none 0 0, .slice none 0 0, .int .i64 0, .slice none 0 0, .int .i64 0, .int .i64 0, .int .i64 0, .int .i64 0, .int .i64 0, .int .i64 0, .int .i64 0, .int .i64 0, .int .i64 0, .int .i64 0, .int .i64 0, .int .i64 0, .int .i64 0, .int .i64 0, .int .i64 0, .int .i64 0, .int .i64 0, .int .i64 0])) := Below.setCells hBv Rw _ _; generalize w9.setCells R 0 ([.int .i64 0, .slice none 0 0, .slice none 0 0, .slice none 0 0, .int .i64 0, .slice none 0 0, .int .i64 0, .int .i64 0, .int .i64 0, .int .i64 0, .int .i64 0, .int .i64 0, .int .i64 0, .int .i64 0, .int .i64 0, .int .i64 0, .int .i64 0, .int .i64 0, .int .i64 0, .int .i64 0, .int .i64 0, .int .i64 0, .int .i64 0, .int .i64 0]) = wz at *)
      have hL := run_loadVar_mid (P := Tryd.prog) _ R 0 37 ([.int .i64 0, .slice none 0 0, .slice none 0 0, .slice none 0 0, .int .i64 0, .slice none 0 0, .int .i64 0, .int .i64 0, .int .i64 0, .int .i64 0, .int .i64 0, .int .i64 0, .int .i64 0, .int .i64 0, .int .i64 0, .int .i64 0, .int .i64 0, .int .i64 0, .int .i64 0, .int .i64 0, .int .i64 0, .int .i64 0, .int .i64 0, .int .i64 0]) _ HRz.out.cell Tryd.underlying37 rfl (by kernel_rfl)
      exact bodyPost_ret (v := .tuple #[.agg ([.int .i64 0, .slice none 0 0, .slice none 0 0, .slice none 0 0, .int .i64 0, .slice none 0 0, .int .i64 0, .int .i64 0, .int .i64 0, .int .i64 0, .int .i64 0, .int .i64 0, .int .i64 0, .int .i64 0, .int .i64 0, .int .i64 0, .int .i64 0, .int .i64 0, .int .i64 0, .int .i64 0, .int .i64 0, .int .i64 0, .int .i64 0, .int .i64 0]).toArray, .int .i64 y]) (res_two Tryd.results20 rfl hL rfl) rfl ⟨⟨kinA 0, rfl, kinA_at _ _, few_kin 0, by first | exact ⟨fun h => absurd h hy, fun _ => EqA.refl _⟩ | exact EqA.refl _⟩, hBz⟩
  · have hd : (z != 0) = true := by simpa using hz
    have hBv := HB5.out
    rw [if_neg hz] at EZ
    have ez := EZ.out
    subst ez
    go_wp2_with (refine wpList_store_mid rfl 37 _ _ rfl R 0 ([.int .i64 0, .slice none 0 0, .slice none 0 0, .slice none 0 0, .int .i64 0, .slice none 0 0, .int .i64 0, .int .i64 0, .int .i64 0, .int .i64 0, .int .i64 0, .int .i64 0, .int .i64 0, .int .i64 0, .int .i64 0, .int .i64 0, .int .i64 0, .int .i64 0, .int .i64 0, .int .i64 0, .int .i64 0, .int .i64 0, .int .i64 0, .int .i64 0]).toArray rfl rfl HR5.out.free (by kernel_rfl) (by simp [Value.oneCell']) ?_; change wpList _ _ _ _ _ (w5.setCells R 0 ([.int .i64 0, .slice none 0 0, .slice none 0 0, .slice none 0 0, .int .i64 0, .slice none 0 0, .int .i64 0, .int .i64 0, .int .i64 0, .int .i64 0, .int .i64 0, .int .i64 0, .int .i64 0, .int .i64 0, .int .i64 0, .int .i64 0, .int .i64 0, .int .i64 0, .int .i64 0, .int .i64 0, .int .i64 0, .int .i64 0, .int .i64 0, .int .i64 0])); have HRz : Hid (Own R ([.int .i64 0, .slice none 0 0, .slice none 0 0, .slice none 0 0, .int .i64 0, .slice none 0 0, .int .i64 0, .int .i64 0, .int .i64 0, .int .i64 0, .int .i64 0, .int .i64 0, .int .i64 0, .int .i64 0, .int .i64 0, .int .i64 0, .int .i64 0, .int .i64 0, .int .i64 0, .int .i64 0, .int .i64 0, .int .i64 0, .int .i64 0, .int .i64 0]) (w5.setCells R 0 ([.int .i64 0, .slice none 0 0, .slice none 0 0, .slice none 0 0, .int .i64 0, .slice none 0 0, .int .i64 0, .int .i64 0, .int .i64 0, .int .i64 0, .int .i64 0, .int .i64 0, .int .i64 0, .int .i64 0, .int .i64 0, .int .i64 0, .int .i64 0, .int .i64 0, .int .i64 0, .int .i64 0, .int .i64 0, .int .i64 0, .int .i64 0, .int .i64 0]))) := Lib.hid (Own.store HR5.out rfl); have hBz : Below w.heap.size w (w5.setCells R 0 ([.int .i64 0, .slice none 0 0, .slice none 0 0, .slice none 0 0, .int .i64 0, .slice none 0 0, .int .i64 0, .int .i64 0, .int .i64 0, .int .i64 0, .int .i64 0, .int .i64 0, .int .i64 0, .int .i64 0, .int .i64 0, .int .i64 0, .int .i64 0, .int .i64 0, .int .i64 0, .int .i64 0, .int .i64 0, .int .i64 0, .int .i64 0, .int .i64 0])) := Below.setCells hBv Rw _ _; generalize w5.setCells R 0 ([.int .i64 0, .slice none 0 0, .slice none 0 0, .slice none 0 0, .int .i64 0, .slice none 0 0, .int .i64 0, .int .i64 0, .int .i64 0, .int .i64 0, .int .i64 0, .int .i64 0, .int .i64 0, .int .i64 0, .int .i64 0, .int .i64 0, .int .i64 0, .int .i64 0, .int .i64 0, .int .i64 0, .int .i64 0, .int .i64 0, .int .i64 0, .int .i64 0]) = wz at *)
    have hL := run_loadVar_mid (P := Tryd.prog) _ R 0 37 ([.int .i64 0, .slice none 0 0, .slice none 0 0, .slice none 0 0, .int .i64 0, .slice none 0 0, .int .i64 0, .int .i64 0, .int .i64 0, .int .i64 0, .int .i64 0, .int .i64 0, .int .i64 0, .int .i64 0, .int .i64 0, .int .i64 0, .int .i64 0, .int .i64 0, .int .i64 0, .int .i64 0, .int .i64 0, .int .i64 0, .int .i64 0, .int .i64 0]) _ HRz.out.cell Tryd.underlying37 rfl (by kernel_rfl)
    exact bodyPost_ret (v := .tuple #[.agg ([.int .i64 0, .slice none 0 0, .slice none 0 0, .slice none 0 0, .int .i64 0, .slice none 0 0, .int .i64 0, .int .i64 0, .int .i64 0, .int .i64 0, .int .i64 0, .int .i64 0, .int .i64 0, .int .i64 0, .int .i64 0, .int .i64 0, .int .i64 0, .int .i64 0, .int .i64 0, .int .i64 0, .int .i64 0, .int .i64 0, .int .i64 0, .int .i64 0]).toArray, .int .i64 y]) (res_two Tryd.results20 rfl hL rfl) rfl ⟨⟨kinA 0, rfl, kinA_at _ _, few_kin 0, by first | exact ⟨fun h => absurd h hz, fun _ => EqA.refl _⟩ | exact EqA.refl _⟩, hBz⟩
set_option maxHeartbeats 16000000 in
theorem RDec_2 (F : Nat → Int) (q : Option Addr) (N c : Nat) (hF : ∀ j, j < N → inB (F j)) (hNc : N ≤ c) (hcx : c ≤ 9223372036854775807) (hN : N ≤ 900) (w : World) (hq : Byt w q N F) :
    Calls Tryd.prog 20 #[.int .i64 2, .slice q N c] w fun e w' => (∃ A, e = .returned (.tuple #[(.agg #[.int .i64 A.k, .slice A.M.qv A.M.nv A.M.cv, .slice A.M.qu A.M.nu A.M.cu, .slice A.M.qt A.M.nt A.M.ct, .int .i64 A.X.S, .slice A.X.q A.X.n A.X.c, .int .i64 (A.g 0), .int .i64 (A.g 1), .int .i64 (A.g 2), .int .i64 (A.g 3), .int .i64 (A.g 4), .int .i64 (A.l 0), .int .i64 (A.l 1), .int .i64 (A.l 2), .int .i64 (A.l 3), .int .i64 (A.l 4), .int .i64 (A.l 5), .int .i64 (A.l 6), .int .i64 (A.l 7), .int .i64 (A.l 8), .int .i64 (A.l 9), .int .i64 (A.l 10), .int .i64 (A.l 11), .int .i64 (A.l 12)]), .int .i64 (decEA 2 F N)]) ∧ AstAt A w' ∧ FewA A ∧ (decEA 2 F N = 0 → EqA A (decA 2 F N)) ∧ (decEA 2 F N ≠ 0 → EqA A (kinA 0))) ∧ Below w.heap.size w w' := by
  have HQ := Lib.hid hq
  have CON := Lib.hid (fun w h => tRDecode_any q N c F hF hNc hcx w h)
  have CK := Lib.hid (fun A (hf : FewA A) w h => RACheck_any A hf w h)
  have EZ : Hid (decEA 2 F N = if tdecE F N = 0 then chkA (decA 2 F N) else tdecE F N) := Lib.hid rfl
  have HF := Lib.hid hF
  obtain ⟨z, ez⟩ : ∃ z, tdecE F N = z := ⟨_, rfl⟩
  have ZE := Lib.hid ez
  rw [ez] at EZ CON
  obtain ⟨y, ey⟩ : ∃ y, decEA 2 F N = y := ⟨_, rfl⟩
  rw [ey] at EZ ⊢
  clear ey
  clear hF hNc hcx hq ez
  have HN := Lib.hid hN
  clear hN
  go_enter Tryd.func20, Tryd.ntmps20
  go_upto_region 1 with fail
  obtain ⟨W0, hW⟩ : ∃ W0, W0 = (w.alloc (.cells #[.int .i64 0, .slice none 0 0, .slice none 0 0, .slice none 0 0, .int .i64 0, .slice none 0 0, .int .i64 0, .int .i64 0, .int .i64 0, .int .i64 0, .int .i64 0, .int .i64 0, .int .i64 0, .int .i64 0, .int .i64 0, .int .i64 0, .int .i64 0, .int .i64 0, .int .i64 0, .int .i64 0, .int .i64 0, .int .i64 0, .int .i64 0, .int .i64 0] 37)) := ⟨_, rfl⟩
  have hB0 : Below w.heap.size w W0 := hW ▸ (Below.al (Below.refl _ _))
  have HR : Hid (Own w.heap.size ([.int .i64 0, .slice none 0 0, .slice none 0 0, .slice none 0 0, .int .i64 0, .slice none 0 0, .int .i64 0, .int .i64 0, .int .i64 0, .int .i64 0, .int .i64 0, .int .i64 0, .int .i64 0, .int .i64 0, .int .i64 0, .int .i64 0, .int .i64 0, .int .i64 0, .int .i64 0, .int .i64 0, .int .i64 0, .int .i64 0, .int .i64 0, .int .i64 0]) W0) := Lib.hid (hW ▸ (show Own w.heap.size ([.int .i64 0, .slice none 0 0, .slice none 0 0, .slice none 0 0, .int .i64 0, .slice none 0 0, .int .i64 0, .int .i64 0, .int .i64 0, .int .i64 0, .int .i64 0, .int .i64 0, .int .i64 0, .int .i64 0, .int .i64 0, .int .i64 0, .int .i64 0, .int .i64 0, .int .i64 0, .int .i64 0, .int .i64 0, .int .i64 0, .int .i64 0, .int .i64 0]) (w.alloc (.cells #[.int .i64 0, .slice none 0 0, .slice none 0 0, .slice none 0 0, .int .i64 0, .slice none 0 0, .int .i64 0, .int .i64 0, .int .i64 0, .int .i64 0, .int .i64 0, .int .i64 0, .int .i64 0, .int .i64 0, .int .i64 0, .int .i64 0, .int .i64 0, .int .i64 0, .int .i64 0, .int .i64 0, .int .i64 0, .int .i64 0, .int .i64 0, .int .i64 0] 37)) from Own.newAt (by simp)))
  rw [← hW]
  clear hW
  obtain ⟨R, eR⟩ : ∃ X, X = w.heap.size := ⟨_, rfl⟩
  rw [← eR] at HR ⊢
  have Rw : w.heap.size ≤ R := by omega
  clear eR
  have HQ0 := Lib.hid (HQ.out.later hB0)
  have HB := Lib.hid hB0
  clear HQ hB0
  go_upto_region 2 with (refine wpList_store_mid rfl 37 _ _ rfl _ 0 #[.int .i64 2, .slice none 0 0, .slice none 0 0, .slice none 0 0, .int .i64 0, .slice none 0 0, .int .i64 0, .int .i64 0, .int .i64 0, .int .i64 0, .int .i64 0, .int .i64 0, .int .i64 0, .int .i64 0, .int .i64 0, .int .i64 0, .int .i64 0, .int .i64 0, .int .i64 0, .int .i64 0, .int .i64 0, .int .i64 0, .int .i64 0, .int .i64 0] rfl rfl (there_newn (cs := [.int .i64 0, .slice none 0 0, .slice none 0 0, .slice none 0 0, .int .i64 0, .slice none 0 0, .int .i64 0, .int .i64 0, .int .i64 0, .int .i64 0, .int .i64 0, .int .i64 0, .int .i64 0, .int .i64 0, .int .i64 0, .int .i64 0, .int .i64 0, .int .i64 0, .int .i64 0, .int .i64 0, .int .i64 0, .int .i64 0, .int .i64 0, .int .i64 0]) (by simp)) (by kernel_rfl) (by simp [Value.oneCell']) ?_; (obtain ⟨W2, hW2⟩ : ∃ W, W = (W0.alloc (.cells #[.int .i64 0, .slice none 0 0, .slice none 0 0, .slice none 0 0, .int .i64 0, .slice none 0 0, .int .i64 0, .int .i64 0, .int .i64 0, .int .i64 0, .int .i64 0, .int .i64 0, .int .i64 0, .int .i64 0, .int .i64 0, .int .i64 0, .int .i64 0, .int .i64 0, .int .i64 0, .int .i64 0, .int .i64 0, .int .i64 0, .int .i64 0, .int .i64 0] 37)).setCells W0.heap.size 0 ([.int .i64 2, .slice none 0 0, .slice none 0 0, .slice none 0 0, .int .i64 0, .slice none 0 0, .int .i64 0, .int .i64 0, .int .i64 0, .int .i64 0, .int .i64 0, .int .i64 0, .int .i64 0, .int .i64 0, .int .i64 0, .int .i64 0, .int .i64 0, .int .i64 0, .int .i64 0, .int .i64 0, .int .i64 0, .int .i64 0, .int .i64 0, .int .i64 0]) := ⟨_, rfl⟩); have hbx : Below W0.heap.size W0 W2 := hW2 ▸ Below.setCells (Below.al (Below.refl _ _)) (Nat.le_refl _) _ _; have HA : Hid (Own W0.heap.size ([.int .i64 2, .slice none 0 0, .slice none 0 0, .slice none 0 0, .int .i64 0, .slice none 0 0, .int .i64 0, .int .i64 0, .int .i64 0, .int .i64 0, .int .i64 0, .int .i64 0, .int .i64 0, .int .i64 0, .int .i64 0, .int .i64 0, .int .i64 0, .int .i64 0, .int .i64 0, .int .i64 0, .int .i64 0, .int .i64 0, .int .i64 0, .int .i64 0]) W2) := Lib.hid (hW2 ▸ Own.store (Own.new _ [.int .i64 0, .slice none 0 0, .slice none 0 0, .slice none 0 0, .int .i64 0, .slice none 0 0, .int .i64 0, .int .i64 0, .int .i64 0, .int .i64 0, .int .i64 0, .int .i64 0, .int .i64 0, .int .i64 0, .int .i64 0, .int .i64 0, .int .i64 0, .int .i64 0, .int .i64 0, .int .i64 0, .int .i64 0, .int .i64 0, .int .i64 0, .int .i64 0] _) rfl); change wpList _ _ _ _ _ ((W0.alloc (.cells #[.int .i64 0, .slice none 0 0, .slice none 0 0, .slice none 0 0, .int .i64 0, .slice none 0 0, .int .i64 0, .int .i64 0, .int .i64 0, .int .i64 0, .int .i64 0, .int .i64 0, .int .i64 0, .int .i64 0, .int .i64 0, .int .i64 0, .int .i64 0, .int .i64 0, .int .i64 0, .int .i64 0, .int .i64 0, .int .i64 0, .int .i64 0, .int .i64 0] 37)).setCells W0.heap.size 0 ([.int .i64 2, .slice none 0 0, .slice none 0 0, .slice none 0 0, .int .i64 0, .slice none 0 0, .int .i64 0, .int .i64 0, .int .i64 0, .int .i64 0, .int .i64 0, .int .i64 0, .int .i64 0, .int .i64 0, .int .i64 0, .int .i64 0, .int .i64 0, .int .i64 0, .int .i64 0, .int .i64 0, .int .i64 0, .int .i64 0, .int .i64 0, .int .i64 0])); rw [← hW2]; clear hW2)
  have nRQ : R ≠ W0.heap.size := by have := HR.out.lt; omega
  have Qw : w.heap.size ≤ W0.heap.size := HB.out.size
  obtain ⟨Q, eQ⟩ : ∃ X, X = W0.heap.size := ⟨_, rfl⟩
  rw [← eQ] at HA nRQ Qw ⊢
  clear eQ
  have HR2 := Lib.hid (HR.out.later hbx); have HQ2 := Lib.hid (HQ0.out.later hbx); have HB2 := Lib.hid (Below.go HB.out hbx)
  clear HR HQ0 HB hbx
  go_upto_region 3 with fail
  obtain ⟨w3, hW⟩ : ∃ w3, w3 = (W2.alloc (.cells #[.slice q N c, .int .i64 0, .int .i64 0] 77)) := ⟨_, rfl⟩
  have hbx : Below W2.heap.size W2 w3 := hW ▸ (Below.al (Below.refl _ _))
  have HS : Hid (Own W2.heap.size ([.slice q N c, .int .i64 0, .int .i64 0]) w3) := Lib.hid (hW ▸ (show Own W2.heap.size ([.slice q N c, .int .i64 0, .int .i64 0]) (W2.alloc (.cells #[.slice q N c, .int .i64 0, .int .i64 0] 77)) from Own.newAt (by simp)))
  rw [← hW]
  clear hW
  obtain ⟨S, eS⟩ : ∃ X, X = W2.heap.size := ⟨_, rfl⟩
  rw [← eS] at HS ⊢
  have Sw : W2.heap.size ≤ S := by omega
  clear eS
  have HR3 := Lib.hid (HR2.out.later hbx); have HA3 := Lib.hid (HA.out.later hbx); have HQ3 := Lib.hid (HQ2.out.later hbx); have HB3 := Lib.hid (Below.go HB2.out hbx)
  have nRS : R ≠ S := by have := HR2.out.lt; omega
  have nQS : Q ≠ S := by have := HA.out.lt; omega
  clear HR2 HA HQ2 hbx
  go_wp2_with (fail)
  go_at_call 38
  refine (CON.out _ HQ3.out).mono ?_
  rintro e w4 ⟨M, rfl, ⟨hM, hD⟩, hb⟩
  have HR4 := Lib.hid (HR3.out.later hb); have HA4 := Lib.hid (HA3.out.later hb); have HB4 := Lib.hid (Below.go HB3.out hb)
  have MM := Lib.hid hM; have DD := Lib.hid hD
  clear hM hD hb HR3 HA3 HB3 HQ3 HS CON
  have oQ := HA4.out
  have Q4 := oQ.at 4 _ rfl
  have Qf4 := oQ.ok 4 (by simp)
  have Q5 := oQ.at 5 _ rfl
  have Qf5 := oQ.ok 5 (by simp)
  have Ql := oQ.lt
  clear oQ
  go_upto_region 21 with fail
  clear Q4 Qf4 Q5 Qf5 Ql
  rw [show ((w4.setCell ⟨Q, 4, none⟩ (.int .i64 M.S)).setCell ⟨Q, 5, none⟩ (.slice M.q M.n M.c)) = w4.setCells Q 4 [.int .i64 M.S, .slice M.q M.n M.c] from rfl]
  have HA5 : Hid (Own Q ([.int .i64 2, .slice none 0 0, .slice none 0 0, .slice none 0 0, .int .i64 M.S, .slice M.q M.n M.c, .int .i64 0, .int .i64 0, .int .i64 0, .int .i64 0, .int .i64 0, .int .i64 0, .int .i64 0, .int .i64 0, .int .i64 0, .int .i64 0, .int .i64 0, .int .i64 0, .int .i64 0, .int .i64 0, .int .i64 0, .int .i64 0, .int .i64 0, .int .i64 0]) (w4.setCells Q 4 [.int .i64 M.S, .slice M.q M.n M.c])) := Lib.hid (show Own Q (over _ 4 [.int .i64 M.S, .slice M.q M.n M.c]) _ from Own.part HA4.out (by simp))
  have HB5 : Hid (Below w.heap.size w (w4.setCells Q 4 [.int .i64 M.S, .slice M.q M.n M.c])) := Lib.hid (Below.setCells HB4.out Qw _ _)
  have HR5 : Hid (Own R [.int .i64 0, .slice none 0 0, .slice none 0 0, .slice none 0 0, .int .i64 0, .slice none 0 0, .int .i64 0, .int .i64 0, .int .i64 0, .int .i64 0, .int .i64 0, .int .i64 0, .int .i64 0, .int .i64 0, .int .i64 0, .int .i64 0, .int .i64 0, .int .i64 0, .int .i64 0, .int .i64 0, .int .i64 0, .int .i64 0, .int .i64 0, .int .i64 0] (w4.setCells Q 4 [.int .i64 M.S, .slice M.q M.n M.c])) := Lib.hid (Own.far HR4.out nRQ)
  have hM3 := TxAt.far3 MM.out HA4.out (vs := [.int .i64 M.S, .slice M.q M.n M.c]) rfl
  clear HA4 HB4 HR4 MM
  generalize w4.setCells Q 4 [.int .i64 M.S, .slice M.q M.n M.c] = w5 at *
  obtain ⟨A, eA⟩ : ∃ A : Ast, A = ⟨2, nilM, M, fun _ => 0, fun _ => 0⟩ := ⟨_, rfl⟩
  have FF : Hid (FewA A) := Lib.hid (by rw [eA]; exact ⟨Nat.zero_le _, Nat.zero_le _, Nat.zero_le _, by have := dec_n DD.out; have := HN.out; show M.n ≤ _; omega⟩)
  have EE : Hid (z = 0 → EqA A (decA 2 F N)) := Lib.hid (fun hz => by
    rw [eA]
    exact ⟨rfl, ⟨rfl, fun _ _ => rfl⟩, ⟨rfl, fun _ _ => rfl⟩, ⟨rfl, fun _ _ => rfl⟩, DD.out.S, ⟨DD.out.n, DD.out.f⟩, fun _ _ => rfl, fun _ _ => rfl⟩)
  have AA : Hid (AstAt A w5) := Lib.hid (by rw [eA]; exact ⟨nilM_at _, hM3⟩)
  have LL : Hid (LoneA A) := Lib.hid (by rw [eA]; exact .inl ⟨rfl, rfl⟩)
  have HA6 : Hid (Own Q [.int .i64 A.k, .slice A.M.qv A.M.nv A.M.cv, .slice A.M.qu A.M.nu A.M.cu, .slice A.M.qt A.M.nt A.M.ct, .int .i64 A.X.S, .slice A.X.q A.X.n A.X.c, .int .i64 (A.g 0), .int .i64 (A.g 1), .int .i64 (A.g 2), .int .i64 (A.g 3), .int .i64 (A.g 4), .int .i64 (A.l 0), .int .i64 (A.l 1), .int .i64 (A.l 2), .int .i64 (A.l 3), .int .i64 (A.l 4), .int .i64 (A.l 5), .int .i64 (A.l 6), .int .i64 (A.l 7), .int .i64 (A.l 8), .int .i64 (A.l 9), .int .i64 (A.l 10), .int .i64 (A.l 11), .int .i64 (A.l 12)] w5) := Lib.hid (by rw [eA]; exact HA5.out)
  clear HA5 hM3 eA DD ZE HF 
  by_cases hz : z = 0
  · subst hz
    have EA_ := Lib.hid (EE.out rfl)
    rw [if_pos rfl, ← chkA_congr EA_.out] at EZ
    go_wp2_with (refine wpList_load_mid rfl 37 _ rfl Q 0 rfl ([.int .i64 A.k, .slice A.M.qv A.M.nv A.M.cv, .slice A.M.qu A.M.nu A.M.cu, .slice A.M.qt A.M.nt A.M.ct, .int .i64 A.X.S, .slice A.X.q A.X.n A.X.c, .int .i64 (A.g 0), .int .i64 (A.g 1), .int .i64 (A.g 2), .int .i64 (A.g 3), .int .i64 (A.g 4), .int .i64 (A.l 0), .int .i64 (A.l 1), .int .i64 (A.l 2), .int .i64 (A.l 3), .int .i64 (A.l 4), .int .i64 (A.l 5), .int .i64 (A.l 6), .int .i64 (A.l 7), .int .i64 (A.l 8), .int .i64 (A.l 9), .int .i64 (A.l 10), .int .i64 (A.l 11), .int .i64 (A.l 12)]) _ HA6.out.cell Tryd.underlying37 rfl (by kernel_rfl) ?_)
    go_at_call 14
    refine (CK.out A FF.out _ AA.out).mono ?_
    rintro e w9 ⟨rfl, hb⟩
    have HR9 := Lib.hid (HR5.out.later hb); have A9 := Lib.hid (AA.out.later hb); have HA9 := Lib.hid (HA6.out.later hb); have hBv := Below.go HB5.out hb
    clear HR5 AA HA6 HB5 hb CK
    rw [← EZ.out]
    clear EZ
    by_cases hy : y = 0
    · subst hy
      go_wp2_with (first | (refine wpList_load_mid rfl 37 _ rfl Q 0 rfl ([.int .i64 A.k, .slice A.M.qv A.M.nv A.M.cv, .slice A.M.qu A.M.nu A.M.cu, .slice A.M.qt A.M.nt A.M.ct, .int .i64 A.X.S, .slice A.X.q A.X.n A.X.c, .int .i64 (A.g 0), .int .i64 (A.g 1), .int .i64 (A.g 2), .int .i64 (A.g 3), .int .i64 (A.g 4), .int .i64 (A.l 0), .int .i64 (A.l 1), .int .i64 (A.l 2), .int .i64 (A.l 3), .int .i64 (A.l 4), .int .i64 (A.l 5), .int .i64 (A.l 6), .int .i64 (A.l 7), .int .i64 (A.l 8), .int .i64 (A.l 9), .int .i64 (A.l 10), .int .i64 (A.l 11), .int .i64 (A.l 12)]) _ HA9.out.cell Tryd.underlying37 rfl (by kernel_rfl) ?_) | (refine wpList_store_mid rfl 37 _ _ rfl R 0 ([.int .i64 A.k, .slice A.M.qv A.M.nv A.M.cv, .slice A.M.qu A.M.nu A.M.cu, .slice A.M.qt A.M.nt A.M.ct, .int .i64 A.X.S, .slice A.X.q A.X.n A.X.c, .int .i64 (A.g 0), .int .i64 (A.g 1), .int .i64 (A.g 2), .int .i64 (A.g 3), .int .i64 (A.g 4), .int .i64 (A.l 0), .int .i64 (A.l 1), .int .i64 (A.l 2), .int .i64 (A.l 3), .int .i64 (A.l 4), .int .i64 (A.l 5), .int .i64 (A.l 6), .int .i64 (A.l 7), .int .i64 (A.l 8), .int .i64 (A.l 9), .int .i64 (A.l 10), .int .i64 (A.l 11), .int .i64 (A.l 12)]).toArray rfl rfl HR9.out.free (by kernel_rfl) (by simp [Value.oneCell']) ?_; change wpList _ _ _ _ _ (w9.setCells R 0 ([.int .i64 A.k, .slice A.M.qv A.M.nv A.M.cv, .slice A.M.qu A.M.nu A.M.cu, .slice A.M.qt A.M.nt A.M.ct, .int .i64 A.X.S, .slice A.X.q A.X.n A.X.c, .int .i64 (A.g 0), .int .i64 (A.g 1), .int .i64 (A.g 2), .int .i64 (A.g 3), .int .i64 (A.g 4), .int .i64 (A.l 0), .int .i64 (A.l 1), .int .i64 (A.l 2), .int .i64 (A.l 3), .int .i64 (A.l 4), .int .i64 (A.l 5), .int .i64 (A.l 6), .int .i64 (A.l 7), .int .i64 (A.l 8), .int .i64 (A.l 9), .int .i64 (A.l 10), .int .i64 (A.l 11), .int .i64 (A.l 12)])); have HRz : Hid (Own R ([.int .i64 A.k, .slice A.M.qv A.M.nv A.M.cv, .slice A.M.qu A.M.nu A.M.cu, .slice A.M.qt A.M.nt A.M.ct, .int .i64 A.X.S, .slice A.X.q A.X.n A.X.c, .int .i64 (A.g 0), .int .i64 (A.g 1), .int .i64 (A.g 2), .int .i64 (A.g 3), .int .i64 (A.g 4), .int .i64 (A.l 0), .int .i64 (A.l 1), .int .i64 (A.l 2), .int .i64 (A.l 3), .int .i64 (A.l 4), .int .i64 (A.l 5), .int .i64 (A.l 6), .int .i64 (A.l 7), .int .i64 (A.l 8), .int .i64 (A.l 9), .int .i64 (A.l 10), .int .i64 (A.l 11), .int .i64 (A.l 12)]) (w9.setCells R 0 ([.int .i64 A.k, .slice A.M.qv A.M.nv A.M.cv, .slice A.M.qu A.M.nu A.M.cu, .slice A.M.qt A.M.nt A.M.ct, .int .i64 A.X.S, .slice A.X.q A.X.n A.X.c, .int .i64 (A.g 0), .int .i64 (A.g 1), .int .i64 (A.g 2), .int .i64 (A.g 3), .int .i64 (A.g 4), .int .i64 (A.l 0), .int .i64 (A.l 1), .int .i64 (A.l 2), .int .i64 (A.l 3), .int .i64 (A.l 4), .int .i64 (A.l 5), .int .i64 (A.l 6), .int .i64 (A.l 7), .int .i64 (A.l 8), .int .i64 (A.l 9), .int .i64 (A.l 10), .int .i64 (A.l 11), .int .i64 (A.l 12)]))) := Lib.hid (Own.store HR9.out rfl); have hBz : Below w.heap.size w (w9.setCells R 0 ([.int .i64 A.k, .slice A.M.qv A.M.nv A.M.cv, .slice A.M.qu A.M.nu A.M.cu, .slice A.M.qt A.M.nt A.M.ct, .int .i64 A.X.S, .slice A.X.q A.X.n A.X.c, .int .i64 (A.g 0), .int .i64 (A.g 1), .int .i64 (A.g 2), .int .i64 (A.g 3), .int .i64 (A.g 4), .int .i64 (A.l 0), .int .i64 (A.l 1), .int .i64 (A.l 2), .int .i64 (A.l 3), .int .i64 (A.l 4), .int .i64 (A.l 5), .int .i64 (A.l 6), .int .i64 (A.l 7), .int .i64 (A.l 8), .int .i64 (A.l 9), .int .i64 (A.l 10), .int .i64 (A.l 11), .int .i64 (A.l 12)])) := Below.setCells hBv Rw _ _; have Az := Lib.hid (AstAt.put LL.out A9.out HR9.out); generalize w9.setCells R 0 ([.int .i64 A.k, .slice A.M.qv A.M.nv A.M.cv, .slice A.M.qu A.M.nu A.M.cu, .slice A.M.qt A.M.nt A.M.ct, .int .i64 A.X.S, .slice A.X.q A.X.n A.X.c, .int .i64 (A.g 0), .int .i64 (A.g 1), .int .i64 (A.g 2), .int .i64 (A.g 3), .int .i64 (A.g 4), .int .i64 (A.l 0), .int .i64 (A.l 1), .int .i64 (A.l 2), .int .i64 (A.l 3), .int .i64 (A.l 4), .int .i64 (A.l 5), .int .i64 (A.l 6), .int .i64 (A.l 7), .int .i64 (A.l 8), .int .i64 (A.l 9), .int .i64 (A.l 10), .int .i64 (A.l 11), .int .i64 (A.l 12)]) = wz at *))
      have hL := run_loadVar_mid (P := Tryd.prog) _ R 0 37 ([.int .i64 A.k, .slice A.M.qv A.M.nv A.M.cv, .slice A.M.qu A.M.nu A.M.cu, .slice A.M.qt A.M.nt A.M.ct, .int .i64 A.X.S, .slice A.X.q A.X.n A.X.c, .int .i64 (A.g 0), .int .i64 (A.g 1), .int .i64 (A.g 2), .int .i64 (A.g 3), .int .i64 (A.g 4), .int .i64 (A.l 0), .int .i64 (A.l 1), .int .i64 (A.l 2), .int .i64 (A.l 3), .int .i64 (A.l 4), .int .i64 (A.l 5), .int .i64 (A.l 6), .int .i64 (A.l 7), .int .i64 (A.l 8), .int .i64 (A.l 9), .int .i64 (A.l 10), .int .i64 (A.l 11), .int .i64 (A.l 12)]) _ HRz.out.cell Tryd.underlying37 rfl (by kernel_rfl)
      exact bodyPost_ret (v := .tuple #[.agg ([.int .i64 A.k, .slice A.M.qv A.M.nv A.M.cv, .slice A.M.qu A.M.nu A.M.cu, .slice A.M.qt A.M.nt A.M.ct, .int .i64 A.X.S, .slice A.X.q A.X.n A.X.c, .int .i64 (A.g 0), .int .i64 (A.g 1), .int .i64 (A.g 2), .int .i64 (A.g 3), .int .i64 (A.g 4), .int .i64 (A.l 0), .int .i64 (A.l 1), .int .i64 (A.l 2), .int .i64 (A.l 3), .int .i64 (A.l 4), .int .i64 (A.l 5), .int .i64 (A.l 6), .int .i64 (A.l 7), .int .i64 (A.l 8), .int .i64 (A.l 9), .int .i64 (A.l 10), .int .i64 (A.l 11), .int .i64 (A.l 12)]).toArray, .int .i64 0]) (res_two Tryd.results20 rfl hL rfl) rfl ⟨⟨A, rfl, Az.out, FF.out, by first | exact ⟨fun _ => EA_.out, fun h => absurd rfl h⟩ | exact EA_.out⟩, hBz⟩
    · have hd : (y != 0) = true := by simpa using hy
      go_wp2_with (refine wpList_store_mid rfl 37 _ _ rfl R 0 ([.int .i64 0, .slice none 0 0, .slice none 0 0, .slice none 0 0, .int .i64 0, .slice none 0 0, .int .i64 0, .int .i64 0, .int .i64 0, .int .i64 0, .int .i64 0, .int .i64 0, .int .i64 0, .int .i64 0, .int .i64 0, .int .i64 0, .int .i64 0, .int .i64 0, .int .i64 0, .int .i64 0, .int .i64 0, .int .i64 0, .int .i64 0, .int .i64 0]).toArray rfl rfl HR9.out.free (by kernel_rfl) (by simp [Value.oneCell']) ?_; change wpList _ _ _ _ _ (w9.setCells R 0 ([.int .i64 0, .slice none 0 0, .slice none 0 0, .slice none 0 0, .int .i64 0, .slice none 0 0, .int .i64 0, .int .i64 0, .int .i64 0, .int .i64 0, .int .i64 0, .int .i64 0, .int .i64 0, .int .i64 0, .int .i64 0, .int .i64 0, .int .i64 0, .int .i64 0, .int .i64 0, .int .i64 0, .int .i64 0, .int .i64 0, .int .i64 0, .int .i64 0])); have HRz : Hid (Own R ([.int .i64 0, .slice none 0 0, .slice none 0 0, .slice none 0 0, .int .i64 0, .slice none 0 0, .int .i64 0, .int .i64 0, .int .i64 0, .int .i64 0, .int .i64 0, .int .i64 0, .int .i64 0, .int .i64 0, .int .i64 0, .int .i64 0, .int .i64 0, .int .i64 0, .int .i64 0, .int .i64 0, .int .i64 0, .int .i64 0, .int .i64 0, .int .i64 0]) (w9.setCells R 0 ([.int .i64 0, .slice none 0 0, .slice none 0 0, .slice none 0 0, .int .i64 0, .slice none 0 0, .int .i64 0, .int .i64 0, .int .i64 0, .int .i64 0, .int .i64 0, .int .i64 0, .int .i64 0, .int .i64 0, .int .i64 0, .int .i64 0, .int .i64 0, .int .i64 0, .int .i64 0, .int .i64 0, .int .i64 0, .int .i64 0, .int .i64 0, .int .i64 0]))) := Lib.hid (Own.store HR9.out rfl); have hBz : Below w.heap.size w (w9.setCells R 0 ([.int .i64 0, .slice none 0 0, .slice none 0 0, .slice none 0 0, .int .i64 0, .slice none 0 0, .int .i64 0, .int .i64 0, .int .i64 0, .int .i64 0, .int .i64 0, .int .i64 0, .int .i64 0, .int .i64 0, .int .i64 0, .int .i64 0, .int .i64 0, .int .i64 0, .int .i64 0, .int .i64 0, .int .i64 0, .int .i64 0, .int .i64 0, .int .i64 0])) := Below.setCells hBv Rw _ _; generalize w9.setCells R 0 ([.int .i64 0, .slice none 0 0, .slice none 0 0, .slice none 0 0, .int .i64 0, .slice none 0 0, .int .i64 0, .int .i64 0, .int .i64 0, .int .i64 0, .int .i64 0, .int .i64 0, .int .i64 0, .int .i64 0, .int .i64 0, .int .i64 0, .int .i64 0, .int .i64 0, .int .i64 0, .int .i64 0, .int .i64 0, .int .i64 0, .int .i64 0, .int .i64 0]) = wz at *)
      have hL := run_loadVar_mid (P := Tryd.prog) _ R 0 37 ([.int .i64 0, .slice none 0 0, .slice none 0 0, .slice none 0 0, .int .i64 0, .slice none 0 0, .int .i64 0, .int .i64 0, .int .i64 0, .int .i64 0, .int .i64 0, .int .i64 0, .int .i64 0, .int .i64 0, .int .i64 0, .int .i64 0, .int .i64 0, .int .i64 0, .int .i64 0, .int .i64 0, .int .i64 0, .int .i64 0, .int .i64 0, .int .i64 0]) _ HRz.out.cell Tryd.underlying37 rfl (by kernel_rfl)
      exact bodyPost_ret (v := .tuple #[.agg ([.int .i64 0, .slice none 0 0, .slice none 0 0, .slice none 0 0, .int .i64 0, .slice none 0 0, .int .i64 0, .int .i64 0, .int .i64 0, .int .i64 0, .int .i64 0, .int .i64 0, .int .i64 0, .int .i64 0, .int .i64 0, .int .i64 0, .int .i64 0, .int .i64 0, .int .i64 0, .int .i64 0, .int .i64 0, .int .i64 0, .int .i64 0, .int .i64 0]).toArray, .int .i64 y]) (res_two Tryd.results20 rfl hL rfl) rfl ⟨⟨kinA 0, rfl, kinA_at _ _, few_kin 0, by first | exact ⟨fun h => absurd h hy, fun _ => EqA.refl _⟩ | exact EqA.refl _⟩, hBz⟩
  · have hd : (z != 0) = true := by simpa using hz
    have hBv := HB5.out
    rw [if_neg hz] at EZ
    have ez := EZ.out
    subst ez
    go_wp2_with (refine wpList_store_mid rfl 37 _ _ rfl R 0 ([.int .i64 0, .slice none 0 0, .slice none 0 0, .slice none 0 0, .int .i64 0, .slice none 0 0, .int .i64 0, .int .i64 0, .int .i64 0, .int .i64 0, .int .i64 0, .int .i64 0, .int .i64 0, .int .i64 0, .int .i64 0, .int .i64 0, .int .i64 0, .int .i64 0, .int .i64 0, .int .i64 0, .int .i64 0, .int .i64 0, .int .i64 0, .int .i64 0]).toArray rfl rfl HR5.out.free (by kernel_rfl) (by simp [Value.oneCell']) ?_; change wpList _ _ _ _ _ (w5.setCells R 0 ([.int .i64 0, .slice none 0 0, .slice none 0 0, .slice none 0 0, .int .i64 0, .slice none 0 0, .int .i64 0, .int .i64 0, .int .i64 0, .int .i64 0, .int .i64 0, .int .i64 0, .int .i64 0, .int .i64 0, .int .i64 0, .int .i64 0, .int .i64 0, .int .i64 0, .int .i64 0, .int .i64 0, .int .i64 0, .int .i64 0, .int .i64 0, .int .i64 0])); have HRz : Hid (Own R ([.int .i64 0, .slice none 0 0, .slice none 0 0, .slice none 0 0, .int .i64 0, .slice none 0 0, .int .i64 0, .int .i64 0, .int .i64 0, .int .i64 0, .int .i64 0, .int .i64 0, .int .i64 0, .int .i64 0, .int .i64 0, .int .i64 0, .int .i64 0, .int .i64 0, .int .i64 0, .int .i64 0, .int .i64 0, .int .i64 0, .int .i64 0, .int .i64 0]) (w5.setCells R 0 ([.int .i64 0, .slice none 0 0, .slice none 0 0, .slice none 0 0, .int .i64 0, .slice none 0 0, .int .i64 0, .int .i64 0, .int .i64 0, .int .i64 0, .int .i64 0, .int .i64 0, .int .i64 0, .int .i64 0, .int .i64 0, .int .i64 0, .int .i64 0, .int .i64 0, .int .i64 0, .int .i64 0, .int .i64 0, .int .i64 0, .int .i64 0, .int .i64 0]))) := Lib.hid (Own.store HR5.out rfl); have hBz : Below w.heap.size w (w5.setCells R 0 ([.int .i64 0, .slice none 0 0, .slice none 0 0, .slice none 0 0, .int .i64 0, .slice none 0 0, .int .i64 0, .int .i64 0, .int .i64 0, .int .i64 0, .int .i64 0, .int .i64 0, .int .i64 0, .int .i64 0, .int .i64 0, .int .i64 0, .int .i64 0, .int .i64 0, .int .i64 0, .int .i64 0, .int .i64 0, .int .i64 0, .int .i64 0, .int .i64 0])) := Below.setCells hBv Rw _ _; generalize w5.setCells R 0 ([.int .i64 0, .slice none 0 0, .slice none 0 0, .slice none 0 0, .int .i64 0, .slice none 0 0, .int .i64 0, .int .i64 0, .int .i64 0, .int .i64 0, .int .i64 0, .int .i64 0, .int .i64 0, .int .i64 0, .int .i64 0, .int .i64 0, .int .i64 0, .int .i64 0, .int .i64 0, .int .i64 0, .int .i64 0, .int .i64 0, .int .i64 0, .int .i64 0]) = wz at *)
    have hL := run_loadVar_mid (P := Tryd.prog) _ R 0 37 ([.int .i64 0, .slice none 0 0, .slice none 0 0, .slice none 0 0, .int .i64 0, .slice none 0 0, .int .i64 0, .int .i64 0, .int .i64 0, .int .i64 0, .int .i64 0, .int .i64 0, .int .i64 0, .int .i64 0, .int .i64 0, .int .i64 0, .int .i64 0, .int .i64 0, .int .i64 0, .int .i64 0, .int .i64 0, .int .i64 0, .int .i64 0, .int .i64 0]) _ HRz.out.cell Tryd.underlying37 rfl (by kernel_rfl)
    exact bodyPost_ret (v := .tuple #[.agg ([.int .i64 0, .slice none 0 0, .slice none 0 0, .slice none 0 0, .int .i64 0, .slice none 0 0, .int .i64 0, .int .i64 0, .int .i64 0, .int .i64 0, .int .i64 0, .int .i64 0, .int .i64 0, .int .i64 0, .int .i64 0, .int .i64 0, .int .i64 0, .int .i64 0, .int .i64 0, .int .i64 0, .int .i64 0, .int .i64 0, .int .i64 0, .int .i64 0]).toArray, .int .i64 y]) (res_two Tryd.results20 rfl hL rfl) rfl ⟨⟨kinA 0, rfl, kinA_at _ _, few_kin 0, by first | exact ⟨fun h => absurd h hz, fun _ => EqA.refl _⟩ | exact EqA.refl _⟩, hBz⟩
end Go.Proofs.YtokfhhngnpbdkaaDoor
