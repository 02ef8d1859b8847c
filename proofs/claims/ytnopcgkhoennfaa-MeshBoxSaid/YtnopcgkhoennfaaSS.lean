/- mesh: the laws' example. -/
import Derived.Test.YtnopcgkhoennfaaSJ
import Derived.Test.YtnopcgkhoennfaaSL
import Derived.Test.YtnopcgkhoennfaaSR
import Derived.Lib.Hide
import Derived.LoopN
import Derived.LoopTactic
import Derived.Deep.Onto
import Derived.Deep.RegionHeld3
import Derived.Deep.QuietTactic
import Derived.BigQuiet
import Derived.Great.BuildSlice
namespace Go.Proofs.Ytnopcgkhoennfaa
set_option linter.unusedVariables false
set_option maxRecDepth 2000
set_option linter.unusedSimpArgs false
open Go.RowKit
def wkV (j : Nat) : Int := [(0 : Int), 0, 0, 5, 0, 0, 0, 7, 0].getD j 0
def wkU (_ : Nat) : Int := 0
def wkR (j : Nat) : Int := [(0 : Int), 1, 2].getD j 0
theorem wk_box {l0 l1 l2 h0 h1 h2 : Int} (h : Box3 wkV wkR 3 3 l0 l1 l2 h0 h1 h2) : h0 = 5 ∧ h1 = 7 ∧ h2 = 0 := by
  obtain ⟨b0, b1, b2⟩ := h
  refine ⟨?_, ?_, ?_⟩
  · obtain ⟨j, hj, e⟩ := b0.hi
    have h1 := (b0.all 1 (by decide)).2
    rw [show crn wkV wkR 1 0 = 5 from rfl] at h1
    match j, hj with
    | 0, _ => rw [show crn wkV wkR 0 0 = 0 from rfl] at e; omega
    | 1, _ => rw [show crn wkV wkR 1 0 = 5 from rfl] at e; omega
    | 2, _ => rw [show crn wkV wkR 2 0 = 0 from rfl] at e; omega
  · obtain ⟨j, hj, e⟩ := b1.hi
    have h1 := (b1.all 2 (by decide)).2
    rw [show crn wkV wkR 2 1 = 7 from rfl] at h1
    match j, hj with
    | 0, _ => rw [show crn wkV wkR 0 1 = 0 from rfl] at e; omega
    | 1, _ => rw [show crn wkV wkR 1 1 = 0 from rfl] at e; omega
    | 2, _ => rw [show crn wkV wkR 2 1 = 7 from rfl] at e; omega
  · obtain ⟨j, hj, e⟩ := b2.hi
    match j, hj with
    | 0, _ => rw [show crn wkV wkR 0 2 = 0 from rfl] at e; omega
    | 1, _ => rw [show crn wkV wkR 1 2 = 0 from rfl] at e; omega
    | 2, _ => rw [show crn wkV wkR 2 2 = 0 from rfl] at e; omega
attribute [local go_sem ↓] eqP_self
set_option maxHeartbeats 8000000 in
theorem works_any (w : World) : Calls Try.prog 14 #[] w fun e w' => e = .returned (.bool true) ∧ Below w.heap.size w w' := by
  go_enter Try.func14, Try.ntmps14
  go_upto_region 2 with fail
  have HV := Lib.hid (show Has w.heap.size 0 (nums .i64 wkV (3 * 3)) ((((w.alloc (.cells #[.int .i64 0, .int .i64 0, .int .i64 0, .int .i64 5, .int .i64 0, .int .i64 0, .int .i64 0, .int .i64 7, .int .i64 0] 46)).alloc (.cells #[.int .i64 0, .int .i64 0, .int .i64 0, .int .i64 0, .int .i64 0, .int .i64 0] 48)).alloc (.cells #[.int .i64 0, .int .i64 1, .int .i64 2] 52)).alloc (.cells #[.slice (some ⟨w.heap.size, 0, none⟩) 3 3, .slice (some ⟨w.heap.size + 1, 0, none⟩) 3 3, .slice (some ⟨w.heap.size + 1 + 1, 0, none⟩) 1 1] 26)) from (Own.newAt (b := w.heap.size) (cs := #[.int .i64 0, .int .i64 0, .int .i64 0, .int .i64 5, .int .i64 0, .int .i64 0, .int .i64 0, .int .i64 7, .int .i64 0]) rfl).alloc.alloc.alloc.has)
  have HU := Lib.hid (show Has (w.heap.size + 1) 0 (nums .i64 wkU (3 * 2)) ((((w.alloc (.cells #[.int .i64 0, .int .i64 0, .int .i64 0, .int .i64 5, .int .i64 0, .int .i64 0, .int .i64 0, .int .i64 7, .int .i64 0] 46)).alloc (.cells #[.int .i64 0, .int .i64 0, .int .i64 0, .int .i64 0, .int .i64 0, .int .i64 0] 48)).alloc (.cells #[.int .i64 0, .int .i64 1, .int .i64 2] 52)).alloc (.cells #[.slice (some ⟨w.heap.size, 0, none⟩) 3 3, .slice (some ⟨w.heap.size + 1, 0, none⟩) 3 3, .slice (some ⟨w.heap.size + 1 + 1, 0, none⟩) 1 1] 26)) from (Own.newAt (b := w.heap.size + 1) (W := (w.alloc (.cells #[.int .i64 0, .int .i64 0, .int .i64 0, .int .i64 5, .int .i64 0, .int .i64 0, .int .i64 0, .int .i64 7, .int .i64 0] 46))) (cs := #[.int .i64 0, .int .i64 0, .int .i64 0, .int .i64 0, .int .i64 0, .int .i64 0]) (by simp)).alloc.alloc.has)
  have HT := Lib.hid (show Has (w.heap.size + 1 + 1) 0 (nums .i64 wkR (1 * 3)) ((((w.alloc (.cells #[.int .i64 0, .int .i64 0, .int .i64 0, .int .i64 5, .int .i64 0, .int .i64 0, .int .i64 0, .int .i64 7, .int .i64 0] 46)).alloc (.cells #[.int .i64 0, .int .i64 0, .int .i64 0, .int .i64 0, .int .i64 0, .int .i64 0] 48)).alloc (.cells #[.int .i64 0, .int .i64 1, .int .i64 2] 52)).alloc (.cells #[.slice (some ⟨w.heap.size, 0, none⟩) 3 3, .slice (some ⟨w.heap.size + 1, 0, none⟩) 3 3, .slice (some ⟨w.heap.size + 1 + 1, 0, none⟩) 1 1] 26)) from (Own.newAt (b := w.heap.size + 1 + 1) (W := ((w.alloc (.cells #[.int .i64 0, .int .i64 0, .int .i64 0, .int .i64 5, .int .i64 0, .int .i64 0, .int .i64 0, .int .i64 7, .int .i64 0] 46)).alloc (.cells #[.int .i64 0, .int .i64 0, .int .i64 0, .int .i64 0, .int .i64 0, .int .i64 0] 48))) (cs := #[.int .i64 0, .int .i64 1, .int .i64 2]) (by simp)).alloc.has)
  have HX := Lib.hid (show Own (w.heap.size + 1 + 1 + 1) [.slice (some ⟨w.heap.size, 0, none⟩) 3 3, .slice (some ⟨w.heap.size + 1, 0, none⟩) 3 3, .slice (some ⟨w.heap.size + 1 + 1, 0, none⟩) 1 1] ((((w.alloc (.cells #[.int .i64 0, .int .i64 0, .int .i64 0, .int .i64 5, .int .i64 0, .int .i64 0, .int .i64 0, .int .i64 7, .int .i64 0] 46)).alloc (.cells #[.int .i64 0, .int .i64 0, .int .i64 0, .int .i64 0, .int .i64 0, .int .i64 0] 48)).alloc (.cells #[.int .i64 0, .int .i64 1, .int .i64 2] 52)).alloc (.cells #[.slice (some ⟨w.heap.size, 0, none⟩) 3 3, .slice (some ⟨w.heap.size + 1, 0, none⟩) 3 3, .slice (some ⟨w.heap.size + 1 + 1, 0, none⟩) 1 1] 26)) from Own.newAt (by simp))
  have HB : Hid (Below w.heap.size w ((((w.alloc (.cells #[.int .i64 0, .int .i64 0, .int .i64 0, .int .i64 5, .int .i64 0, .int .i64 0, .int .i64 0, .int .i64 7, .int .i64 0] 46)).alloc (.cells #[.int .i64 0, .int .i64 0, .int .i64 0, .int .i64 0, .int .i64 0, .int .i64 0] 48)).alloc (.cells #[.int .i64 0, .int .i64 1, .int .i64 2] 52)).alloc (.cells #[.slice (some ⟨w.heap.size, 0, none⟩) 3 3, .slice (some ⟨w.heap.size + 1, 0, none⟩) 3 3, .slice (some ⟨w.heap.size + 1 + 1, 0, none⟩) 1 1] 26))) := Lib.hid (Below.al (Below.al (Below.al (Below.al (Below.refl _ _)))))
  generalize ((((w.alloc (.cells #[.int .i64 0, .int .i64 0, .int .i64 0, .int .i64 5, .int .i64 0, .int .i64 0, .int .i64 0, .int .i64 7, .int .i64 0] 46)).alloc (.cells #[.int .i64 0, .int .i64 0, .int .i64 0, .int .i64 0, .int .i64 0, .int .i64 0] 48)).alloc (.cells #[.int .i64 0, .int .i64 1, .int .i64 2] 52)).alloc (.cells #[.slice (some ⟨w.heap.size, 0, none⟩) 3 3, .slice (some ⟨w.heap.size + 1, 0, none⟩) 3 3, .slice (some ⟨w.heap.size + 1 + 1, 0, none⟩) 1 1] 26)) = W0 at *
  obtain ⟨X, eX⟩ : ∃ X, X = w.heap.size + 1 + 1 + 1 := ⟨_, rfl⟩
  rw [← eX] at HX ⊢
  obtain ⟨T, eT⟩ : ∃ X, X = w.heap.size + 1 + 1 := ⟨_, rfl⟩
  rw [← eT] at HX HT ⊢
  obtain ⟨U, eU⟩ : ∃ X, X = w.heap.size + 1 := ⟨_, rfl⟩
  rw [← eU] at HX HU ⊢
  obtain ⟨V, eV⟩ : ∃ X, X = w.heap.size := ⟨_, rfl⟩
  rw [← eV] at HX HV ⊢
  have HM : Hid (MeshAt ⟨some ⟨V, 0, none⟩, 3, 3, wkV, some ⟨U, 0, none⟩, 3, 3, wkU, some ⟨T, 0, none⟩, 1, 1, wkR⟩ W0) := Lib.hid ⟨.inr ⟨V, 0, rfl, HV.out⟩, .inr ⟨U, 0, rfl, HU.out⟩, .inr ⟨T, 0, rfl, HT.out⟩, Nat.le_refl _, Nat.le_refl _, Nat.le_refl _, (show 3 ≤ 9223372036854775807 by decide), (show 3 ≤ 9223372036854775807 by decide), (show 1 ≤ 9223372036854775807 by decide)⟩
  have hc : chkM ⟨some ⟨V, 0, none⟩, 3, 3, wkV, some ⟨U, 0, none⟩, 3, 3, wkU, some ⟨T, 0, none⟩, 1, 1, wkR⟩ = 0 := by show chkF 3 3 1 wkV wkU wkR = 0; decide
  have EN := Lib.hid (Encode_any ⟨some ⟨V, 0, none⟩, 3, 3, wkV, some ⟨U, 0, none⟩, 3, 3, wkU, some ⟨T, 0, none⟩, 1, 1, wkR⟩); have BX := Lib.hid (Box_yes ⟨some ⟨V, 0, none⟩, 3, 3, wkV, some ⟨U, 0, none⟩, 3, 3, wkU, some ⟨T, 0, none⟩, 1, 1, wkR⟩)
  rw [hc] at EN
  have HC := Lib.hid hc
  rw [show encL 0 (encN 3 3 1) = 35 from rfl] at EN
  generalize encF 3 3 1 wkV wkU wkR = EF at *
  clear hc HV HU HT eX eT eU eV
  have oX := HX.out
  have X0 := oX.at 0 _ rfl
  have X1 := oX.at 1 _ rfl
  have X2 := oX.at 2 _ rfl
  have Xl := oX.lt
  clear oX
  go_wp2_with (fail)
  go_at_call 9
  refine (EN.out _ HM.out).mono ?_
  rintro e w1 ⟨⟨v, rfl, q, c, rfl, _, _, _⟩, hb⟩
  have HX1 := Lib.hid (HX.out.later hb); have HM1 := Lib.hid (HM.out.later hb); have HB1 := Lib.hid (Below.go HB.out hb)
  clear hb HX HM HB EN X0 X1 X2 Xl
  have oX := HX1.out
  have X0 := oX.at 0 _ rfl
  have X1 := oX.at 1 _ rfl
  have X2 := oX.at 2 _ rfl
  have Xl := oX.lt
  clear oX
  go_wp2_with (fail)
  go_at_call 19
  refine (BX.out _ HM1.out HC.out).mono ?_
  rintro e w2 ⟨⟨l0, l1, l2, h0, h1, h2, rfl, hbx⟩, hb⟩
  obtain ⟨rfl, rfl, rfl⟩ := wk_box hbx
  have HB2 := Lib.hid (Below.go HB1.out hb)
  clear hb hbx HX1 HM1 HB1 BX X0 X1 X2 Xl
  go_wp2_with (fail)
  go_ret
  exact ⟨rfl, Below.al (Below.al HB2.out)⟩
end Go.Proofs.Ytnopcgkhoennfaa
