/- AssetBack: the walk. -/
import Derived.Test.YtokfhhngnpbdkaaDoorJe
import Derived.Test.YtokfhhngnpbdkaaDoorIQ
import Derived.Test.YtokfhhngnpbdkaaDoorIP
import Derived.Lib.Hide
import Derived.LoopN
import Derived.LoopTactic
import Derived.Deep.Onto
import Derived.Deep.RegionHeld3
import Derived.Deep.QuietTactic
import Derived.BigQuiet
import Derived.Great.BuildSlice
import Derived.StillTailTactics
import Derived.Lib.SliceRun
import Derived.OrdersHeld
namespace Go.Proofs.YtokfhhngnpbdkaaDoor
set_option linter.unusedVariables false
set_option maxRecDepth 2000
set_option linter.unusedSimpArgs false
open Go.RowKit
theorem wpList_load_g {P : Program} {ops : Array Oper} {rest : List Oper} {op : Oper} {a : Act} {w : World} {Q : Exit → Act → World → Prop} (hw : Region.wanted op (yielded ops a.tmps) = true) (ty : TypeId) (x : Operand) (ho : op.op = .load ty x)
    (b o : Nat) (hx : a.eval x = .pointer (some ⟨b, o, none⟩)) (cs : List Value) (d : TypeDesc) (hc : w.rangeAt b o cs)
    (hu : P.underlying ty = some d) (hd : d.isRow = true) (hi : (P.info? ty).map (·.size) = some cs.length)
    (h : wpList P ops Q rest (a.put op.dst (.agg cs.toArray)) w) : wpList P ops Q (op :: rest) a w :=
  wpList_step fun K hK => by
    rw [if_pos hw]
    exact wp_load_mid ty x ho b o hx cs d hc hu hd hi (hK _ _ h)
theorem inB_dg (z : Int) (i : Nat) : inB (dg z i) := by
  unfold dg inB
  omega
theorem inB_out {f : Nat → Int} {m W : Nat} {g : Nat → Int} (h : ∀ j, inB (f j)) (j : Nat) : inB (outF f m W g j) := by
  unfold outF
  split
  · exact h j
  · exact inB_dg _ _
theorem inB_zero : inB 0 := by unfold inB; omega
theorem encA_in {A : Ast} (h : chkA A = 0) : ∀ j, j < lenA A → inB (encA A j) := by
  obtain ⟨k, M, X, g, l⟩ := A
  intro j hj
  rcases kind_of h with rfl | rfl | rfl | rfl
  · exact enc_in j
  · exact tenc_in (chk2_zero (show chk2 (chkT X.S X.n X.f) (sameA ⟨2, M, nilX, g, l⟩ (kinA 2)) = 0 from h)).1 j hj
  · show inB (encG g j)
    unfold encG encG2 encG1
    exact inB_out (inB_out (inB_out (fun _ => inB_zero))) j
  · show inB (encLg l j)
    unfold encLg encT2 encG1
    exact inB_out (inB_out (inB_out (fun _ => inB_zero))) j
theorem encA_congr {A B : Ast} (h : EqA A B) (hz : chkA A = 0) : ∀ j, j < lenA A → encA A j = encA B j := by
  obtain ⟨k, M, X, g, l⟩ := A
  obtain ⟨k', M', X', g', l'⟩ := B
  obtain rfl : k = k' := h.k
  intro j hj
  rcases kind_of hz with rfl | rfl | rfl | rfl
  · have e1 : M.nv = M'.nv := h.v.1
    have e2 : M.nu = M'.nu := h.u.1
    have e3 : M.nt = M'.nt := h.t.1
    show encF M.nv M.nu M.nt M.V M.U M.R j = encF M'.nv M'.nu M'.nt M'.V M'.U M'.R j
    have hj : j < encN M.nv M.nu M.nt := hj
    rw [← e1, ← e2, ← e3]
    unfold encF enc3 enc2
    unfold encN at hj
    exact outF_congr _ _ _ 1 (M.nt * 3) _ _ (fun j hj => outF_congr _ _ _ 2 (M.nu * 2) _ _ (fun j hj => outF_congr _ _ 2 2 (M.nv * 3) _ _ (fun _ _ => rfl) (fun k i hk _ => by rw [show M.V k = M'.V k from h.v.2 k hk]) hj) (fun k i hk _ => by rw [show M.U k = M'.U k from h.u.2 k hk]) hj) (fun k i hk _ => by rw [show M.R k = M'.R k from h.t.2 k hk]) hj
  · have hj : j < 1 + X.n * 3 := hj
    show encT X.S X.f j = encT X'.S X'.f j
    unfold encT
    by_cases j0 : j = 0
    · rw [if_pos j0, if_pos j0]; exact h.s
    · rw [if_neg j0, if_neg j0]; exact h.x.2 (j - 1) (by show j - 1 < X.n * 3; omega)
  · have hj : j < 9 := hj
    show encG g j = encG g' j
    unfold encG encG2 encG1
    exact outF_congr _ _ 7 2 1 _ _ (fun j hj => outF_congr _ _ 1 2 3 _ _ (fun j hj => outF_congr _ _ 0 1 1 _ _ (fun _ _ => rfl) (fun k i hk _ => by rw [show g k = g' k from h.g k (by omega)]) hj) (fun k i hk _ => by rw [show g (1 + k) = g' (1 + k) from h.g _ (by omega)]) hj) (fun k i hk _ => by rw [show g (4 + k) = g' (4 + k) from h.g _ (by omega)]) hj
  · have hj : j < 31 := hj
    show encLg l j = encLg l' j
    unfold encLg encT2 encG1
    exact outF_congr _ _ 13 2 9 _ _ (fun j hj => outF_congr _ _ 1 4 3 _ _ (fun j hj => outF_congr _ _ 0 1 1 _ _ (fun _ _ => rfl) (fun k i hk _ => by rw [show l k = l' k from h.l k (by omega)]) hj) (fun k i hk _ => by rw [show l (1 + k) = l' (1 + k) from h.l _ (by omega)]) hj) (fun k i hk _ => by rw [show l (4 + k) = l' (4 + k) from h.l _ (by omega)]) hj
set_option maxHeartbeats 16000000 in
theorem Back_core (A : Ast) (k : Int) (F : Nat → Int) (q : Option Addr) (n c m : Nat) (em : min (n : Int) 900 = (m : Int)) (hF : ∀ j, j < m → inB (F j)) (hnc : n ≤ c) (hcx : c ≤ 9223372036854775807) (E : World) (hA : AstAt A E) (hg : Has 0 0 CapL E) (hq : Byt E q m F) :
    Calls Tryd.prog 7 #[(.agg #[.int .i64 A.k, .slice A.M.qv A.M.nv A.M.cv, .slice A.M.qu A.M.nu A.M.cu, .slice A.M.qt A.M.nt A.M.ct, .int .i64 A.X.S, .slice A.X.q A.X.n A.X.c, .int .i64 (A.g 0), .int .i64 (A.g 1), .int .i64 (A.g 2), .int .i64 (A.g 3), .int .i64 (A.g 4), .int .i64 (A.l 0), .int .i64 (A.l 1), .int .i64 (A.l 2), .int .i64 (A.l 3), .int .i64 (A.l 4), .int .i64 (A.l 5), .int .i64 (A.l 6), .int .i64 (A.l 7), .int .i64 (A.l 8), .int .i64 (A.l 9), .int .i64 (A.l 10), .int .i64 (A.l 11), .int .i64 (A.l 12)]), .int .i64 k, .slice q n c] E fun e w' => e = .returned (.bool true) ∧ Below E.heap.size E w' := by
  have AA := Lib.hid hA; have QQ := Lib.hid hq; have GG := Lib.hid hg
  have FW := Lib.hid (lfew_any A)
  have D1 := Lib.hid (fun w h h2 => ADecode_any k F q m c hF (by omega) w h h2)
  have CE := Lib.hid (fun w (h : AstAt A w) h2 => AEncode_any (fewA A) (fewA_few A) w (fewA_at h) h2)
  have DC := Lib.hid (fun (hz : chkA (fewA A) = 0) (p : Option Addr) (d : Nat) w h h2 => ADecode_any (fewA A).k (encA (fewA A)) p (lenA (fewA A)) d (encA_in hz) (lenA_le hz).2.1 w h h2)
  have DZ := Lib.hid (fun (hz : chkA (fewA A) = 0) => enc_decE hz)
  have DE := Lib.hid (fun (hz : chkA (fewA A) = 0) => (enc_decA hz).2)
  have LE := Lib.hid (fun (hz : chkA (fewA A) = 0) => lenA_le hz)
  have DB := Lib.hid (fun (hy : decEA k F m = 0) => (decEA_zero hy).2)
  have DN := Lib.hid (fun (hy : decEA k F m = 0) => dec_encA hF hy)
  have HMC : Hid (m ≤ c ∧ c ≤ 9223372036854775807) := Lib.hid (by omega)
  have m0 : (0 : Int) ≤ (m : Int) := by omega
  have m1 : (m : Int) ≤ (c : Int) := by omega
  have m2 : (n : Int) ≤ (c : Int) := by omega
  obtain ⟨y, ey⟩ : ∃ y, decEA k F m = y := ⟨_, rfl⟩
  rw [ey] at D1 DB DN
  clear hF hnc hcx hA hg hq ey
  go_enter Tryd.func7, Tryd.ntmps7
  go_upto_region 1 with fail
  obtain ⟨W0, hW⟩ : ∃ W0, W0 = (E.alloc (.cells #[.int .i64 A.k, .slice A.M.qv A.M.nv A.M.cv, .slice A.M.qu A.M.nu A.M.cu, .slice A.M.qt A.M.nt A.M.ct, .int .i64 A.X.S, .slice A.X.q A.X.n A.X.c, .int .i64 (A.g 0), .int .i64 (A.g 1), .int .i64 (A.g 2), .int .i64 (A.g 3), .int .i64 (A.g 4), .int .i64 (A.l 0), .int .i64 (A.l 1), .int .i64 (A.l 2), .int .i64 (A.l 3), .int .i64 (A.l 4), .int .i64 (A.l 5), .int .i64 (A.l 6), .int .i64 (A.l 7), .int .i64 (A.l 8), .int .i64 (A.l 9), .int .i64 (A.l 10), .int .i64 (A.l 11), .int .i64 (A.l 12)] 37)) := ⟨_, rfl⟩
  have hB0 : Below E.heap.size E W0 := hW ▸ (Below.al (Below.refl _ _))
  have HP : Hid (Own E.heap.size ([.int .i64 A.k, .slice A.M.qv A.M.nv A.M.cv, .slice A.M.qu A.M.nu A.M.cu, .slice A.M.qt A.M.nt A.M.ct, .int .i64 A.X.S, .slice A.X.q A.X.n A.X.c, .int .i64 (A.g 0), .int .i64 (A.g 1), .int .i64 (A.g 2), .int .i64 (A.g 3), .int .i64 (A.g 4), .int .i64 (A.l 0), .int .i64 (A.l 1), .int .i64 (A.l 2), .int .i64 (A.l 3), .int .i64 (A.l 4), .int .i64 (A.l 5), .int .i64 (A.l 6), .int .i64 (A.l 7), .int .i64 (A.l 8), .int .i64 (A.l 9), .int .i64 (A.l 10), .int .i64 (A.l 11), .int .i64 (A.l 12)]) W0) := Lib.hid (hW ▸ (show Own E.heap.size ([.int .i64 A.k, .slice A.M.qv A.M.nv A.M.cv, .slice A.M.qu A.M.nu A.M.cu, .slice A.M.qt A.M.nt A.M.ct, .int .i64 A.X.S, .slice A.X.q A.X.n A.X.c, .int .i64 (A.g 0), .int .i64 (A.g 1), .int .i64 (A.g 2), .int .i64 (A.g 3), .int .i64 (A.g 4), .int .i64 (A.l 0), .int .i64 (A.l 1), .int .i64 (A.l 2), .int .i64 (A.l 3), .int .i64 (A.l 4), .int .i64 (A.l 5), .int .i64 (A.l 6), .int .i64 (A.l 7), .int .i64 (A.l 8), .int .i64 (A.l 9), .int .i64 (A.l 10), .int .i64 (A.l 11), .int .i64 (A.l 12)]) (E.alloc (.cells #[.int .i64 A.k, .slice A.M.qv A.M.nv A.M.cv, .slice A.M.qu A.M.nu A.M.cu, .slice A.M.qt A.M.nt A.M.ct, .int .i64 A.X.S, .slice A.X.q A.X.n A.X.c, .int .i64 (A.g 0), .int .i64 (A.g 1), .int .i64 (A.g 2), .int .i64 (A.g 3), .int .i64 (A.g 4), .int .i64 (A.l 0), .int .i64 (A.l 1), .int .i64 (A.l 2), .int .i64 (A.l 3), .int .i64 (A.l 4), .int .i64 (A.l 5), .int .i64 (A.l 6), .int .i64 (A.l 7), .int .i64 (A.l 8), .int .i64 (A.l 9), .int .i64 (A.l 10), .int .i64 (A.l 11), .int .i64 (A.l 12)] 37)) from Own.newAt (by simp)))
  rw [← hW]
  clear hW
  obtain ⟨P, eP⟩ : ∃ X, X = E.heap.size := ⟨_, rfl⟩
  rw [← eP] at HP ⊢
  have Pw : E.heap.size ≤ P := by omega
  clear eP
  refine wp_region_fun 9 (by kernel_rfl) (by kernel_rfl) rfl (fun s b => ⟨#[(.agg #[.int .i64 A.k, .slice A.M.qv A.M.nv A.M.cv, .slice A.M.qu A.M.nu A.M.cu, .slice A.M.qt A.M.nt A.M.ct, .int .i64 A.X.S, .slice A.X.q A.X.n A.X.c, .int .i64 (A.g 0), .int .i64 (A.g 1), .int .i64 (A.g 2), .int .i64 (A.g 3), .int .i64 (A.g 4), .int .i64 (A.l 0), .int .i64 (A.l 1), .int .i64 (A.l 2), .int .i64 (A.l 3), .int .i64 (A.l 4), .int .i64 (A.l 5), .int .i64 (A.l 6), .int .i64 (A.l 7), .int .i64 (A.l 8), .int .i64 (A.l 9), .int .i64 (A.l 10), .int .i64 (A.l 11), .int .i64 (A.l 12)]), .int .i64 k, s 2, .pointer (some ⟨P, 0, none⟩), undef, undef, .bool false, undef, undef, undef, undef, undef, undef, undef, undef, s 15, s 16, s 17, s 18, s 19, s 20, s 21, undef, undef, undef, undef, undef, undef, undef, undef, undef, undef, undef, undef, undef, undef, undef, undef, undef, undef, undef, undef, undef, undef, undef, undef, undef, undef, undef, undef, undef, undef, undef, undef, undef, undef, undef, undef, undef, undef, undef, undef, undef, undef, undef, undef, undef, undef, undef, undef, undef, undef, undef, undef, undef, undef, undef, undef, undef, undef, undef, undef, undef, undef, undef, undef, undef, undef, undef, undef, undef, undef], []⟩) (fun d s b w => (Below E.heap.size E w) ∧ (d 0 = true → s 15 = (.agg #[.int .i64 A.k, .slice A.M.qv A.M.nv A.M.cv, .slice A.M.qu A.M.nu A.M.cu, .slice A.M.qt A.M.nt A.M.ct, .int .i64 A.X.S, .slice A.X.q A.X.n A.X.c, .int .i64 (A.g 0), .int .i64 (A.g 1), .int .i64 (A.g 2), .int .i64 (A.g 3), .int .i64 (A.g 4), .int .i64 (A.l 0), .int .i64 (A.l 1), .int .i64 (A.l 2), .int .i64 (A.l 3), .int .i64 (A.l 4), .int .i64 (A.l 5), .int .i64 (A.l 6), .int .i64 (A.l 7), .int .i64 (A.l 8), .int .i64 (A.l 9), .int .i64 (A.l 10), .int .i64 (A.l 11), .int .i64 (A.l 12)])) ∧ (d 1 = true → s 16 = (.agg #[.int .i64 (fewA A).k, .slice (fewA A).M.qv (fewA A).M.nv (fewA A).M.cv, .slice (fewA A).M.qu (fewA A).M.nu (fewA A).M.cu, .slice (fewA A).M.qt (fewA A).M.nt (fewA A).M.ct, .int .i64 (fewA A).X.S, .slice (fewA A).X.q (fewA A).X.n (fewA A).X.c, .int .i64 ((fewA A).g 0), .int .i64 ((fewA A).g 1), .int .i64 ((fewA A).g 2), .int .i64 ((fewA A).g 3), .int .i64 ((fewA A).g 4), .int .i64 ((fewA A).l 0), .int .i64 ((fewA A).l 1), .int .i64 ((fewA A).l 2), .int .i64 ((fewA A).l 3), .int .i64 ((fewA A).l 4), .int .i64 ((fewA A).l 5), .int .i64 ((fewA A).l 6), .int .i64 ((fewA A).l 7), .int .i64 ((fewA A).l 8), .int .i64 ((fewA A).l 9), .int .i64 ((fewA A).l 10), .int .i64 ((fewA A).l 11), .int .i64 ((fewA A).l 12)])) ∧ (d 2 = true → s 17 = .slice q n c) ∧ (d 3 = true → s 18 = .slice q n c) ∧ (d 4 = true → s 19 = .int .i64 (n : Int)) ∧ (d 5 = true → s 20 = .int .i64 (m : Int)) ∧ (d 6 = true → s 21 = .slice q m c) ∧ (d 7 = false → Own P ([.int .i64 A.k, .slice A.M.qv A.M.nv A.M.cv, .slice A.M.qu A.M.nu A.M.cu, .slice A.M.qt A.M.nt A.M.ct, .int .i64 A.X.S, .slice A.X.q A.X.n A.X.c, .int .i64 (A.g 0), .int .i64 (A.g 1), .int .i64 (A.g 2), .int .i64 (A.g 3), .int .i64 (A.g 4), .int .i64 (A.l 0), .int .i64 (A.l 1), .int .i64 (A.l 2), .int .i64 (A.l 3), .int .i64 (A.l 4), .int .i64 (A.l 5), .int .i64 (A.l 6), .int .i64 (A.l 7), .int .i64 (A.l 8), .int .i64 (A.l 9), .int .i64 (A.l 10), .int .i64 (A.l 11), .int .i64 (A.l 12)]) w) ∧ (d 7 = true → Own P ([.int .i64 (fewA A).k, .slice (fewA A).M.qv (fewA A).M.nv (fewA A).M.cv, .slice (fewA A).M.qu (fewA A).M.nu (fewA A).M.cu, .slice (fewA A).M.qt (fewA A).M.nt (fewA A).M.ct, .int .i64 (fewA A).X.S, .slice (fewA A).X.q (fewA A).X.n (fewA A).X.c, .int .i64 ((fewA A).g 0), .int .i64 ((fewA A).g 1), .int .i64 ((fewA A).g 2), .int .i64 ((fewA A).g 3), .int .i64 ((fewA A).g 4), .int .i64 ((fewA A).l 0), .int .i64 ((fewA A).l 1), .int .i64 ((fewA A).l 2), .int .i64 ((fewA A).l 3), .int .i64 ((fewA A).l 4), .int .i64 ((fewA A).l 5), .int .i64 ((fewA A).l 6), .int .i64 ((fewA A).l 7), .int .i64 ((fewA A).l 8), .int .i64 ((fewA A).l 9), .int .i64 ((fewA A).l 10), .int .i64 ((fewA A).l 11), .int .i64 ((fewA A).l 12)]) w) ∧ (d 8 = true → s 2 = .slice q m c) ∧ (d 8 = false → s 2 = .slice q n c) ∧ (d 8 = true → d 2 = true) ∧ (d 8 = true → d 3 = true) ∧ (d 7 = true → d 0 = true)) rfl ?h0w1 (?stw1 : StepsF _ _ _ _ 9 _ _ [0, 1, 2, 3, 4, 5, 6, 7, 8]) ?dnw1
  case h0w1 => exact ⟨Below.drew hB0, (fun h => nomatch h), (fun h => nomatch h), (fun h => nomatch h), (fun h => nomatch h), (fun h => nomatch h), (fun h => nomatch h), (fun h => nomatch h), (fun _ => HP.out.drew), (fun h => nomatch h), (fun h => nomatch h), (fun _ => rfl), (fun h => nomatch h), (fun h => nomatch h), (fun h => nomatch h)⟩
  case stw1 =>
    refine StepsF.cons (o := _) rfl (ws := []) (by kernel_rfl) (by decide) (fun d s b w hF hd hw K_ hK => ?_) ?_
    · have hB : Below E.heap.size E w := (p0_ hF.out)
      have oP := ((p8_ hF.out) (by cases e : d 7 with | false => rfl | true => exact absurd ((q14_ hF.out) e) (by simp [hd])))
      refine step_load (by simp [Region.wanted]) 37 _ rfl P 0 rfl ([.int .i64 A.k, .slice A.M.qv A.M.nv A.M.cv, .slice A.M.qu A.M.nu A.M.cu, .slice A.M.qt A.M.nt A.M.ct, .int .i64 A.X.S, .slice A.X.q A.X.n A.X.c, .int .i64 (A.g 0), .int .i64 (A.g 1), .int .i64 (A.g 2), .int .i64 (A.g 3), .int .i64 (A.g 4), .int .i64 (A.l 0), .int .i64 (A.l 1), .int .i64 (A.l 2), .int .i64 (A.l 3), .int .i64 (A.l 4), .int .i64 (A.l 5), .int .i64 (A.l 6), .int .i64 (A.l 7), .int .i64 (A.l 8), .int .i64 (A.l 9), .int .i64 (A.l 10), .int .i64 (A.l 11), .int .i64 (A.l 12)]) _ oP.cell Tryd.underlying37 rfl (by kernel_rfl) ?_
      exact hK.out (ups s 15 ((.agg #[.int .i64 A.k, .slice A.M.qv A.M.nv A.M.cv, .slice A.M.qu A.M.nu A.M.cu, .slice A.M.qt A.M.nt A.M.ct, .int .i64 A.X.S, .slice A.X.q A.X.n A.X.c, .int .i64 (A.g 0), .int .i64 (A.g 1), .int .i64 (A.g 2), .int .i64 (A.g 3), .int .i64 (A.g 4), .int .i64 (A.l 0), .int .i64 (A.l 1), .int .i64 (A.l 2), .int .i64 (A.l 3), .int .i64 (A.l 4), .int .i64 (A.l 5), .int .i64 (A.l 6), .int .i64 (A.l 7), .int .i64 (A.l 8), .int .i64 (A.l 9), .int .i64 (A.l 10), .int .i64 (A.l 11), .int .i64 (A.l 12)]))) b _ ⟨hB, (fun _ => rfl), (p2_ hF.out), (p3_ hF.out), (p4_ hF.out), (p5_ hF.out), (p6_ hF.out), (p7_ hF.out), (p8_ hF.out), (p9_ hF.out), (p10_ hF.out), (p11_ hF.out), (p12_ hF.out), (p13_ hF.out), (fun _ => rfl)⟩
    refine StepsF.cons (o := _) rfl (ws := [0]) (by kernel_rfl) (by decide) (fun d s b w hF hd hw K_ hK => ?_) ?_
    · have hB : Below E.heap.size E w := (p0_ hF.out)
      have e0 : s 15 = (.agg #[.int .i64 A.k, .slice A.M.qv A.M.nv A.M.cv, .slice A.M.qu A.M.nu A.M.cu, .slice A.M.qt A.M.nt A.M.ct, .int .i64 A.X.S, .slice A.X.q A.X.n A.X.c, .int .i64 (A.g 0), .int .i64 (A.g 1), .int .i64 (A.g 2), .int .i64 (A.g 3), .int .i64 (A.g 4), .int .i64 (A.l 0), .int .i64 (A.l 1), .int .i64 (A.l 2), .int .i64 (A.l 3), .int .i64 (A.l 4), .int .i64 (A.l 5), .int .i64 (A.l 6), .int .i64 (A.l 7), .int .i64 (A.l 8), .int .i64 (A.l 9), .int .i64 (A.l 10), .int .i64 (A.l 11), .int .i64 (A.l 12)]) := (p1_ hF.out) (hw 0 (by decide))
      dsimp only
      go_simp
      go_at_call 8
      refine (FW.out _ (AA.out.later hB)).mono ?_
      rintro e w1 ⟨rfl, hb⟩
      exact hK.out (ups (ups s 15 ((.agg #[.int .i64 A.k, .slice A.M.qv A.M.nv A.M.cv, .slice A.M.qu A.M.nu A.M.cu, .slice A.M.qt A.M.nt A.M.ct, .int .i64 A.X.S, .slice A.X.q A.X.n A.X.c, .int .i64 (A.g 0), .int .i64 (A.g 1), .int .i64 (A.g 2), .int .i64 (A.g 3), .int .i64 (A.g 4), .int .i64 (A.l 0), .int .i64 (A.l 1), .int .i64 (A.l 2), .int .i64 (A.l 3), .int .i64 (A.l 4), .int .i64 (A.l 5), .int .i64 (A.l 6), .int .i64 (A.l 7), .int .i64 (A.l 8), .int .i64 (A.l 9), .int .i64 (A.l 10), .int .i64 (A.l 11), .int .i64 (A.l 12)]))) 16 ((.agg #[.int .i64 (fewA A).k, .slice (fewA A).M.qv (fewA A).M.nv (fewA A).M.cv, .slice (fewA A).M.qu (fewA A).M.nu (fewA A).M.cu, .slice (fewA A).M.qt (fewA A).M.nt (fewA A).M.ct, .int .i64 (fewA A).X.S, .slice (fewA A).X.q (fewA A).X.n (fewA A).X.c, .int .i64 ((fewA A).g 0), .int .i64 ((fewA A).g 1), .int .i64 ((fewA A).g 2), .int .i64 ((fewA A).g 3), .int .i64 ((fewA A).g 4), .int .i64 ((fewA A).l 0), .int .i64 ((fewA A).l 1), .int .i64 ((fewA A).l 2), .int .i64 ((fewA A).l 3), .int .i64 ((fewA A).l 4), .int .i64 ((fewA A).l 5), .int .i64 ((fewA A).l 6), .int .i64 ((fewA A).l 7), .int .i64 ((fewA A).l 8), .int .i64 ((fewA A).l 9), .int .i64 ((fewA A).l 10), .int .i64 ((fewA A).l 11), .int .i64 ((fewA A).l 12)]))) b _ ⟨(Below.go hB hb), (fun _ => rfl), (fun _ => rfl), (p3_ hF.out), (p4_ hF.out), (p5_ hF.out), (p6_ hF.out), (p7_ hF.out), (fun h0 => ((p8_ hF.out) h0).later hb), (fun h0 => ((p9_ hF.out) h0).later hb), (p10_ hF.out), (p11_ hF.out), (p12_ hF.out), (p13_ hF.out), (q14_ hF.out)⟩
    refine StepsF.cons (o := _) rfl (ws := []) (by kernel_rfl) (by decide) (fun d s b w hF hd hw K_ hK => ?_) ?_
    · have hB : Below E.heap.size E w := (p0_ hF.out)
      have e8 : s 2 = .slice q n c := (p11_ hF.out) (by cases e : d 8 with | false => rfl | true => exact absurd ((p12_ hF.out) e) (by simp [hd]))
      dsimp only
      go_simp
      exact hK.out (ups (ups s 2 (.slice q n c)) 17 (.slice q n c)) b _ ⟨hB, (p1_ hF.out), (p2_ hF.out), (fun _ => rfl), (p4_ hF.out), (p5_ hF.out), (p6_ hF.out), (p7_ hF.out), (p8_ hF.out), (p9_ hF.out), (fun h => absurd ((p12_ hF.out) h) (by simp [hd])), (fun _ => rfl), (fun _ => rfl), (p13_ hF.out), (q14_ hF.out)⟩
    refine StepsF.cons (o := _) rfl (ws := []) (by kernel_rfl) (by decide) (fun d s b w hF hd hw K_ hK => ?_) ?_
    · have hB : Below E.heap.size E w := (p0_ hF.out)
      have e8 : s 2 = .slice q n c := (p11_ hF.out) (by cases e : d 8 with | false => rfl | true => exact absurd ((p13_ hF.out) e) (by simp [hd]))
      dsimp only
      go_simp
      exact hK.out (ups (ups s 2 (.slice q n c)) 18 (.slice q n c)) b _ ⟨hB, (p1_ hF.out), (p2_ hF.out), (p3_ hF.out), (fun _ => rfl), (p5_ hF.out), (p6_ hF.out), (p7_ hF.out), (p8_ hF.out), (p9_ hF.out), (fun h => absurd ((p13_ hF.out) h) (by simp [hd])), (fun _ => rfl), (p12_ hF.out), (fun _ => rfl), (q14_ hF.out)⟩
    refine StepsF.cons (o := _) rfl (ws := [3]) (by kernel_rfl) (by decide) (fun d s b w hF hd hw K_ hK => ?_) ?_
    · have hB : Below E.heap.size E w := (p0_ hF.out)
      have e3 : s 18 = .slice q n c := (p4_ hF.out) (hw 3 (by decide))
      dsimp only
      go_simp
      exact hK.out (ups (ups s 18 (.slice q n c)) 19 (.int .i64 (n : Int))) b _ ⟨hB, (p1_ hF.out), (p2_ hF.out), (p3_ hF.out), (fun _ => rfl), (fun _ => rfl), (p6_ hF.out), (p7_ hF.out), (p8_ hF.out), (p9_ hF.out), (p10_ hF.out), (p11_ hF.out), (p12_ hF.out), (p13_ hF.out), (q14_ hF.out)⟩
    refine StepsF.cons (o := _) rfl (ws := [4]) (by kernel_rfl) (by decide) (fun d s b w hF hd hw K_ hK => ?_) ?_
    · have hB : Below E.heap.size E w := (p0_ hF.out)
      have e4 : s 19 = .int .i64 (n : Int) := (p5_ hF.out) (hw 4 (by decide))
      dsimp only
      go_simp
      exact hK.out (ups (ups s 19 (.int .i64 (n : Int))) 20 (.int .i64 (m : Int))) b _ ⟨hB, (p1_ hF.out), (p2_ hF.out), (p3_ hF.out), (p4_ hF.out), (fun _ => rfl), (fun _ => rfl), (p7_ hF.out), (p8_ hF.out), (p9_ hF.out), (p10_ hF.out), (p11_ hF.out), (p12_ hF.out), (p13_ hF.out), (q14_ hF.out)⟩
    refine StepsF.cons (o := _) rfl (ws := [2, 5]) (by kernel_rfl) (by decide) (fun d s b w hF hd hw K_ hK => ?_) ?_
    · have hB : Below E.heap.size E w := (p0_ hF.out)
      have e2 : s 17 = .slice q n c := (p3_ hF.out) (hw 2 (by decide))
      have e5 : s 20 = .int .i64 (m : Int) := (p6_ hF.out) (hw 5 (by decide))
      dsimp only
      go_simp
      exact hK.out (ups (ups (ups s 17 (.slice q n c)) 20 (.int .i64 (m : Int))) 21 (.slice q m c)) b _ ⟨hB, (p1_ hF.out), (p2_ hF.out), (fun _ => rfl), (p4_ hF.out), (p5_ hF.out), (fun _ => rfl), (fun _ => rfl), (p8_ hF.out), (p9_ hF.out), (p10_ hF.out), (p11_ hF.out), (p12_ hF.out), (p13_ hF.out), (q14_ hF.out)⟩
    refine StepsF.cons (o := _) rfl (ws := [1, 1, 0, 1]) (by kernel_rfl) (by decide) (fun d s b w hF hd hw K_ hK => ?_) ?_
    · have hB : Below E.heap.size E w := (p0_ hF.out)
      have e0 : s 15 = (.agg #[.int .i64 A.k, .slice A.M.qv A.M.nv A.M.cv, .slice A.M.qu A.M.nu A.M.cu, .slice A.M.qt A.M.nt A.M.ct, .int .i64 A.X.S, .slice A.X.q A.X.n A.X.c, .int .i64 (A.g 0), .int .i64 (A.g 1), .int .i64 (A.g 2), .int .i64 (A.g 3), .int .i64 (A.g 4), .int .i64 (A.l 0), .int .i64 (A.l 1), .int .i64 (A.l 2), .int .i64 (A.l 3), .int .i64 (A.l 4), .int .i64 (A.l 5), .int .i64 (A.l 6), .int .i64 (A.l 7), .int .i64 (A.l 8), .int .i64 (A.l 9), .int .i64 (A.l 10), .int .i64 (A.l 11), .int .i64 (A.l 12)]) := (p1_ hF.out) (hw 0 (by decide))
      have e1 : s 16 = (.agg #[.int .i64 (fewA A).k, .slice (fewA A).M.qv (fewA A).M.nv (fewA A).M.cv, .slice (fewA A).M.qu (fewA A).M.nu (fewA A).M.cu, .slice (fewA A).M.qt (fewA A).M.nt (fewA A).M.ct, .int .i64 (fewA A).X.S, .slice (fewA A).X.q (fewA A).X.n (fewA A).X.c, .int .i64 ((fewA A).g 0), .int .i64 ((fewA A).g 1), .int .i64 ((fewA A).g 2), .int .i64 ((fewA A).g 3), .int .i64 ((fewA A).g 4), .int .i64 ((fewA A).l 0), .int .i64 ((fewA A).l 1), .int .i64 ((fewA A).l 2), .int .i64 ((fewA A).l 3), .int .i64 ((fewA A).l 4), .int .i64 ((fewA A).l 5), .int .i64 ((fewA A).l 6), .int .i64 ((fewA A).l 7), .int .i64 ((fewA A).l 8), .int .i64 ((fewA A).l 9), .int .i64 ((fewA A).l 10), .int .i64 ((fewA A).l 11), .int .i64 ((fewA A).l 12)]) := (p2_ hF.out) (hw 1 (by decide))
      dsimp only
      have oX := (p8_ hF.out) hd
      rw [e0, e1]
      rw [if_pos]
      rotate_left
      · simp [Region.wanted]
      refine wp_store_mid 37 (.tmp 3) (.tmp 16) rfl P 0 #[.int .i64 (fewA A).k, .slice (fewA A).M.qv (fewA A).M.nv (fewA A).M.cv, .slice (fewA A).M.qu (fewA A).M.nu (fewA A).M.cu, .slice (fewA A).M.qt (fewA A).M.nt (fewA A).M.ct, .int .i64 (fewA A).X.S, .slice (fewA A).X.q (fewA A).X.n (fewA A).X.c, .int .i64 ((fewA A).g 0), .int .i64 ((fewA A).g 1), .int .i64 ((fewA A).g 2), .int .i64 ((fewA A).g 3), .int .i64 ((fewA A).g 4), .int .i64 ((fewA A).l 0), .int .i64 ((fewA A).l 1), .int .i64 ((fewA A).l 2), .int .i64 ((fewA A).l 3), .int .i64 ((fewA A).l 4), .int .i64 ((fewA A).l 5), .int .i64 ((fewA A).l 6), .int .i64 ((fewA A).l 7), .int .i64 ((fewA A).l 8), .int .i64 ((fewA A).l 9), .int .i64 ((fewA A).l 10), .int .i64 ((fewA A).l 11), .int .i64 ((fewA A).l 12)] rfl rfl (oX.room (by simp)) (by kernel_rfl) (by simp [Value.oneCell']) ?_
      exact hK.out (ups (ups s 15 ((.agg #[.int .i64 A.k, .slice A.M.qv A.M.nv A.M.cv, .slice A.M.qu A.M.nu A.M.cu, .slice A.M.qt A.M.nt A.M.ct, .int .i64 A.X.S, .slice A.X.q A.X.n A.X.c, .int .i64 (A.g 0), .int .i64 (A.g 1), .int .i64 (A.g 2), .int .i64 (A.g 3), .int .i64 (A.g 4), .int .i64 (A.l 0), .int .i64 (A.l 1), .int .i64 (A.l 2), .int .i64 (A.l 3), .int .i64 (A.l 4), .int .i64 (A.l 5), .int .i64 (A.l 6), .int .i64 (A.l 7), .int .i64 (A.l 8), .int .i64 (A.l 9), .int .i64 (A.l 10), .int .i64 (A.l 11), .int .i64 (A.l 12)]))) 16 ((.agg #[.int .i64 (fewA A).k, .slice (fewA A).M.qv (fewA A).M.nv (fewA A).M.cv, .slice (fewA A).M.qu (fewA A).M.nu (fewA A).M.cu, .slice (fewA A).M.qt (fewA A).M.nt (fewA A).M.ct, .int .i64 (fewA A).X.S, .slice (fewA A).X.q (fewA A).X.n (fewA A).X.c, .int .i64 ((fewA A).g 0), .int .i64 ((fewA A).g 1), .int .i64 ((fewA A).g 2), .int .i64 ((fewA A).g 3), .int .i64 ((fewA A).g 4), .int .i64 ((fewA A).l 0), .int .i64 ((fewA A).l 1), .int .i64 ((fewA A).l 2), .int .i64 ((fewA A).l 3), .int .i64 ((fewA A).l 4), .int .i64 ((fewA A).l 5), .int .i64 ((fewA A).l 6), .int .i64 ((fewA A).l 7), .int .i64 ((fewA A).l 8), .int .i64 ((fewA A).l 9), .int .i64 ((fewA A).l 10), .int .i64 ((fewA A).l 11), .int .i64 ((fewA A).l 12)]))) b _ ⟨(Below.setCells hB Pw ([.int .i64 (fewA A).k, .slice (fewA A).M.qv (fewA A).M.nv (fewA A).M.cv, .slice (fewA A).M.qu (fewA A).M.nu (fewA A).M.cu, .slice (fewA A).M.qt (fewA A).M.nt (fewA A).M.ct, .int .i64 (fewA A).X.S, .slice (fewA A).X.q (fewA A).X.n (fewA A).X.c, .int .i64 ((fewA A).g 0), .int .i64 ((fewA A).g 1), .int .i64 ((fewA A).g 2), .int .i64 ((fewA A).g 3), .int .i64 ((fewA A).g 4), .int .i64 ((fewA A).l 0), .int .i64 ((fewA A).l 1), .int .i64 ((fewA A).l 2), .int .i64 ((fewA A).l 3), .int .i64 ((fewA A).l 4), .int .i64 ((fewA A).l 5), .int .i64 ((fewA A).l 6), .int .i64 ((fewA A).l 7), .int .i64 ((fewA A).l 8), .int .i64 ((fewA A).l 9), .int .i64 ((fewA A).l 10), .int .i64 ((fewA A).l 11), .int .i64 ((fewA A).l 12)]) 0), (fun _ => rfl), (fun _ => rfl), (p3_ hF.out), (p4_ hF.out), (p5_ hF.out), (p6_ hF.out), (p7_ hF.out), (fun h => nomatch h), (fun _ => Own.store (vs := [.int .i64 (fewA A).k, .slice (fewA A).M.qv (fewA A).M.nv (fewA A).M.cv, .slice (fewA A).M.qu (fewA A).M.nu (fewA A).M.cu, .slice (fewA A).M.qt (fewA A).M.nt (fewA A).M.ct, .int .i64 (fewA A).X.S, .slice (fewA A).X.q (fewA A).X.n (fewA A).X.c, .int .i64 ((fewA A).g 0), .int .i64 ((fewA A).g 1), .int .i64 ((fewA A).g 2), .int .i64 ((fewA A).g 3), .int .i64 ((fewA A).g 4), .int .i64 ((fewA A).l 0), .int .i64 ((fewA A).l 1), .int .i64 ((fewA A).l 2), .int .i64 ((fewA A).l 3), .int .i64 ((fewA A).l 4), .int .i64 ((fewA A).l 5), .int .i64 ((fewA A).l 6), .int .i64 ((fewA A).l 7), .int .i64 ((fewA A).l 8), .int .i64 ((fewA A).l 9), .int .i64 ((fewA A).l 10), .int .i64 ((fewA A).l 11), .int .i64 ((fewA A).l 12)]) oX rfl), (p10_ hF.out), (p11_ hF.out), (p12_ hF.out), (p13_ hF.out), (fun _ => hw 0 (by decide))⟩
    refine StepsF.cons (o := _) rfl (ws := [6, 7, 0, 1, 2, 3, 4, 5, 6, 7]) (by kernel_rfl) (by decide) (fun d s b w hF hd hw K_ hK => ?_) ?_
    · have hB : Below E.heap.size E w := (p0_ hF.out)
      have e0 : s 15 = (.agg #[.int .i64 A.k, .slice A.M.qv A.M.nv A.M.cv, .slice A.M.qu A.M.nu A.M.cu, .slice A.M.qt A.M.nt A.M.ct, .int .i64 A.X.S, .slice A.X.q A.X.n A.X.c, .int .i64 (A.g 0), .int .i64 (A.g 1), .int .i64 (A.g 2), .int .i64 (A.g 3), .int .i64 (A.g 4), .int .i64 (A.l 0), .int .i64 (A.l 1), .int .i64 (A.l 2), .int .i64 (A.l 3), .int .i64 (A.l 4), .int .i64 (A.l 5), .int .i64 (A.l 6), .int .i64 (A.l 7), .int .i64 (A.l 8), .int .i64 (A.l 9), .int .i64 (A.l 10), .int .i64 (A.l 11), .int .i64 (A.l 12)]) := (p1_ hF.out) (hw 0 (by decide))
      have e1 : s 16 = (.agg #[.int .i64 (fewA A).k, .slice (fewA A).M.qv (fewA A).M.nv (fewA A).M.cv, .slice (fewA A).M.qu (fewA A).M.nu (fewA A).M.cu, .slice (fewA A).M.qt (fewA A).M.nt (fewA A).M.ct, .int .i64 (fewA A).X.S, .slice (fewA A).X.q (fewA A).X.n (fewA A).X.c, .int .i64 ((fewA A).g 0), .int .i64 ((fewA A).g 1), .int .i64 ((fewA A).g 2), .int .i64 ((fewA A).g 3), .int .i64 ((fewA A).g 4), .int .i64 ((fewA A).l 0), .int .i64 ((fewA A).l 1), .int .i64 ((fewA A).l 2), .int .i64 ((fewA A).l 3), .int .i64 ((fewA A).l 4), .int .i64 ((fewA A).l 5), .int .i64 ((fewA A).l 6), .int .i64 ((fewA A).l 7), .int .i64 ((fewA A).l 8), .int .i64 ((fewA A).l 9), .int .i64 ((fewA A).l 10), .int .i64 ((fewA A).l 11), .int .i64 ((fewA A).l 12)]) := (p2_ hF.out) (hw 1 (by decide))
      have e2 : s 17 = .slice q n c := (p3_ hF.out) (hw 2 (by decide))
      have e3 : s 18 = .slice q n c := (p4_ hF.out) (hw 3 (by decide))
      have e4 : s 19 = .int .i64 (n : Int) := (p5_ hF.out) (hw 4 (by decide))
      have e5 : s 20 = .int .i64 (m : Int) := (p6_ hF.out) (hw 5 (by decide))
      have e6 : s 21 = .slice q m c := (p7_ hF.out) (hw 6 (by decide))
      dsimp only
      go_simp
      exact hK.out (ups (ups (ups (ups (ups (ups (ups (ups s 15 ((.agg #[.int .i64 A.k, .slice A.M.qv A.M.nv A.M.cv, .slice A.M.qu A.M.nu A.M.cu, .slice A.M.qt A.M.nt A.M.ct, .int .i64 A.X.S, .slice A.X.q A.X.n A.X.c, .int .i64 (A.g 0), .int .i64 (A.g 1), .int .i64 (A.g 2), .int .i64 (A.g 3), .int .i64 (A.g 4), .int .i64 (A.l 0), .int .i64 (A.l 1), .int .i64 (A.l 2), .int .i64 (A.l 3), .int .i64 (A.l 4), .int .i64 (A.l 5), .int .i64 (A.l 6), .int .i64 (A.l 7), .int .i64 (A.l 8), .int .i64 (A.l 9), .int .i64 (A.l 10), .int .i64 (A.l 11), .int .i64 (A.l 12)]))) 16 ((.agg #[.int .i64 (fewA A).k, .slice (fewA A).M.qv (fewA A).M.nv (fewA A).M.cv, .slice (fewA A).M.qu (fewA A).M.nu (fewA A).M.cu, .slice (fewA A).M.qt (fewA A).M.nt (fewA A).M.ct, .int .i64 (fewA A).X.S, .slice (fewA A).X.q (fewA A).X.n (fewA A).X.c, .int .i64 ((fewA A).g 0), .int .i64 ((fewA A).g 1), .int .i64 ((fewA A).g 2), .int .i64 ((fewA A).g 3), .int .i64 ((fewA A).g 4), .int .i64 ((fewA A).l 0), .int .i64 ((fewA A).l 1), .int .i64 ((fewA A).l 2), .int .i64 ((fewA A).l 3), .int .i64 ((fewA A).l 4), .int .i64 ((fewA A).l 5), .int .i64 ((fewA A).l 6), .int .i64 ((fewA A).l 7), .int .i64 ((fewA A).l 8), .int .i64 ((fewA A).l 9), .int .i64 ((fewA A).l 10), .int .i64 ((fewA A).l 11), .int .i64 ((fewA A).l 12)]))) 17 (.slice q n c)) 18 (.slice q n c)) 19 (.int .i64 (n : Int))) 20 (.int .i64 (m : Int))) 21 (.slice q m c)) 2 (.slice q m c)) b _ ⟨hB, (fun _ => rfl), (fun _ => rfl), (fun _ => rfl), (fun _ => rfl), (fun _ => rfl), (fun _ => rfl), (fun _ => rfl), (p8_ hF.out), (p9_ hF.out), (fun _ => rfl), (fun h => nomatch h), (fun _ => hw 2 (by decide)), (fun _ => hw 3 (by decide)), (q14_ hF.out)⟩
    exact StepsF.nil
  intro d s b w1 hF hall
  replace hF := Lib.hid hF
  have hB : Below E.heap.size E w1 := (p0_ hF.out)
  try dsimp only
  have e0 : s 15 = (.agg #[.int .i64 A.k, .slice A.M.qv A.M.nv A.M.cv, .slice A.M.qu A.M.nu A.M.cu, .slice A.M.qt A.M.nt A.M.ct, .int .i64 A.X.S, .slice A.X.q A.X.n A.X.c, .int .i64 (A.g 0), .int .i64 (A.g 1), .int .i64 (A.g 2), .int .i64 (A.g 3), .int .i64 (A.g 4), .int .i64 (A.l 0), .int .i64 (A.l 1), .int .i64 (A.l 2), .int .i64 (A.l 3), .int .i64 (A.l 4), .int .i64 (A.l 5), .int .i64 (A.l 6), .int .i64 (A.l 7), .int .i64 (A.l 8), .int .i64 (A.l 9), .int .i64 (A.l 10), .int .i64 (A.l 11), .int .i64 (A.l 12)]) := (p1_ hF.out) (hall 0 (by decide))
  have e1 : s 16 = (.agg #[.int .i64 (fewA A).k, .slice (fewA A).M.qv (fewA A).M.nv (fewA A).M.cv, .slice (fewA A).M.qu (fewA A).M.nu (fewA A).M.cu, .slice (fewA A).M.qt (fewA A).M.nt (fewA A).M.ct, .int .i64 (fewA A).X.S, .slice (fewA A).X.q (fewA A).X.n (fewA A).X.c, .int .i64 ((fewA A).g 0), .int .i64 ((fewA A).g 1), .int .i64 ((fewA A).g 2), .int .i64 ((fewA A).g 3), .int .i64 ((fewA A).g 4), .int .i64 ((fewA A).l 0), .int .i64 ((fewA A).l 1), .int .i64 ((fewA A).l 2), .int .i64 ((fewA A).l 3), .int .i64 ((fewA A).l 4), .int .i64 ((fewA A).l 5), .int .i64 ((fewA A).l 6), .int .i64 ((fewA A).l 7), .int .i64 ((fewA A).l 8), .int .i64 ((fewA A).l 9), .int .i64 ((fewA A).l 10), .int .i64 ((fewA A).l 11), .int .i64 ((fewA A).l 12)]) := (p2_ hF.out) (hall 1 (by decide))
  have e2 : s 17 = .slice q n c := (p3_ hF.out) (hall 2 (by decide))
  have e3 : s 18 = .slice q n c := (p4_ hF.out) (hall 3 (by decide))
  have e4 : s 19 = .int .i64 (n : Int) := (p5_ hF.out) (hall 4 (by decide))
  have e5 : s 20 = .int .i64 (m : Int) := (p6_ hF.out) (hall 5 (by decide))
  have e6 : s 21 = .slice q m c := (p7_ hF.out) (hall 6 (by decide))
  have f7 := (p9_ hF.out) (hall 7 (by decide))
  have e8 : s 2 = .slice q m c := (p10_ hF.out) (hall 8 (by decide))
  rw [e0, e1, e2, e3, e4, e5, e6, e8]
  clear hall hF e0 e1 e2 e3 e4 e5 e6 e8
  clear d s b
  have HP1 := Lib.hid f7
  clear f7 HP hB0 m0 m1 m2 em
  have A1 := Lib.hid (AA.out.later hB); have G1 := Lib.hid (GG.out.later hB); have Q1 := Lib.hid (QQ.out.later hB)
  have HB1 := Lib.hid hB
  clear hB AA GG QQ FW
  go_wp2_with (refine wpList_load_mid rfl 37 _ rfl P 0 rfl ([.int .i64 (fewA A).k, .slice (fewA A).M.qv (fewA A).M.nv (fewA A).M.cv, .slice (fewA A).M.qu (fewA A).M.nu (fewA A).M.cu, .slice (fewA A).M.qt (fewA A).M.nt (fewA A).M.ct, .int .i64 (fewA A).X.S, .slice (fewA A).X.q (fewA A).X.n (fewA A).X.c, .int .i64 ((fewA A).g 0), .int .i64 ((fewA A).g 1), .int .i64 ((fewA A).g 2), .int .i64 ((fewA A).g 3), .int .i64 ((fewA A).g 4), .int .i64 ((fewA A).l 0), .int .i64 ((fewA A).l 1), .int .i64 ((fewA A).l 2), .int .i64 ((fewA A).l 3), .int .i64 ((fewA A).l 4), .int .i64 ((fewA A).l 5), .int .i64 ((fewA A).l 6), .int .i64 ((fewA A).l 7), .int .i64 ((fewA A).l 8), .int .i64 ((fewA A).l 9), .int .i64 ((fewA A).l 10), .int .i64 ((fewA A).l 11), .int .i64 ((fewA A).l 12)]) _ HP1.out.cell Tryd.underlying37 rfl (by kernel_rfl) ?_)
  go_at_call 16
  refine (CE.out _ A1.out G1.out).mono ?_
  rintro e w2 ⟨⟨v, rfl, hr⟩, hb⟩
  have HP2 := Lib.hid (HP1.out.later hb); have A2 := Lib.hid (A1.out.later hb); have G2 := Lib.hid (G1.out.later hb); have Q2 := Lib.hid (Q1.out.later hb); have HB2 := Lib.hid (Below.go HB1.out hb)
  obtain ⟨p, d, rfl, hc1, hc2, hy⟩ := hr
  have BY2 := Lib.hid hy; have CC := Lib.hid (And.intro hc1 hc2)
  clear hb hy hc1 hc2 HP1 A1 G1 Q1 HB1 CE
  obtain ⟨z, ez⟩ : ∃ z, chkA (fewA A) = z := ⟨_, rfl⟩
  rw [ez] at DC DZ DE LE BY2 CC ⊢
  by_cases hz : z = 0
  · subst hz
    have t : chkA (fewA A) = 0 := ez
    have L_ := LE.out (by first | rfl | trivial)
    have ZZ := DZ.out (by first | rfl | trivial)
    have EE := Lib.hid (DE.out (by first | rfl | trivial))
    have DC2 := Lib.hid (fun p d w h h2 => DC.out (by first | rfl | trivial) p d w h h2)
    rw [ZZ] at DC2
    have LZ := Lib.hid L_
    rw [show encL 0 (lenA (fewA A)) = lenA (fewA A) from rfl] at BY2 CC ⊢
    clear DC DZ DE LE L_ ZZ t ez
    generalize hlen : lenA (fewA A) = len at *
    clear hlen
    have oP := HP2.out
    have P0 := oP.at 0 _ rfl
    have Pl := oP.lt
    clear oP
    go_wp2_with (fail)
    clear P0 Pl
    go_at_call 19
    refine (DC2.out _ _ _ BY2.out G2.out).mono ?_
    rintro e w3 ⟨⟨B, rfl, hA, fB, yB, -⟩, hb⟩
    have SM : Hid (sameA (fewA A) B = true) := Lib.hid (sameA_iff.2 (EE.out.trans (yB (by first | rfl | trivial)).symm))
    have HP3 := Lib.hid (HP2.out.later hb); have A3 := Lib.hid (A2.out.later hb); have B3 := Lib.hid hA; have G3 := Lib.hid (G2.out.later hb); have Q3 := Lib.hid (Q2.out.later hb); have HB3 := Lib.hid (Below.go HB2.out hb)
    clear hA fB yB hb HP2 A2 G2 Q2 HB2 BY2 EE DC2
    go_upto_region 5 with (refine wpList_store_mid rfl 37 _ _ rfl _ 0 #[.int .i64 B.k, .slice B.M.qv B.M.nv B.M.cv, .slice B.M.qu B.M.nu B.M.cu, .slice B.M.qt B.M.nt B.M.ct, .int .i64 B.X.S, .slice B.X.q B.X.n B.X.c, .int .i64 (B.g 0), .int .i64 (B.g 1), .int .i64 (B.g 2), .int .i64 (B.g 3), .int .i64 (B.g 4), .int .i64 (B.l 0), .int .i64 (B.l 1), .int .i64 (B.l 2), .int .i64 (B.l 3), .int .i64 (B.l 4), .int .i64 (B.l 5), .int .i64 (B.l 6), .int .i64 (B.l 7), .int .i64 (B.l 8), .int .i64 (B.l 9), .int .i64 (B.l 10), .int .i64 (B.l 11), .int .i64 (B.l 12)] rfl rfl (there_newn (cs := [.int .i64 0, .slice none 0 0, .slice none 0 0, .slice none 0 0, .int .i64 0, .slice none 0 0, .int .i64 0, .int .i64 0, .int .i64 0, .int .i64 0, .int .i64 0, .int .i64 0, .int .i64 0, .int .i64 0, .int .i64 0, .int .i64 0, .int .i64 0, .int .i64 0, .int .i64 0, .int .i64 0, .int .i64 0, .int .i64 0, .int .i64 0, .int .i64 0]) (by simp)) (by kernel_rfl) (by simp [Value.oneCell']) ?_; (obtain ⟨w4, hW2⟩ : ∃ W, W = (w3.alloc (.cells #[.int .i64 0, .slice none 0 0, .slice none 0 0, .slice none 0 0, .int .i64 0, .slice none 0 0, .int .i64 0, .int .i64 0, .int .i64 0, .int .i64 0, .int .i64 0, .int .i64 0, .int .i64 0, .int .i64 0, .int .i64 0, .int .i64 0, .int .i64 0, .int .i64 0, .int .i64 0, .int .i64 0, .int .i64 0, .int .i64 0, .int .i64 0, .int .i64 0] 37)).setCells w3.heap.size 0 ([.int .i64 B.k, .slice B.M.qv B.M.nv B.M.cv, .slice B.M.qu B.M.nu B.M.cu, .slice B.M.qt B.M.nt B.M.ct, .int .i64 B.X.S, .slice B.X.q B.X.n B.X.c, .int .i64 (B.g 0), .int .i64 (B.g 1), .int .i64 (B.g 2), .int .i64 (B.g 3), .int .i64 (B.g 4), .int .i64 (B.l 0), .int .i64 (B.l 1), .int .i64 (B.l 2), .int .i64 (B.l 3), .int .i64 (B.l 4), .int .i64 (B.l 5), .int .i64 (B.l 6), .int .i64 (B.l 7), .int .i64 (B.l 8), .int .i64 (B.l 9), .int .i64 (B.l 10), .int .i64 (B.l 11), .int .i64 (B.l 12)]) := ⟨_, rfl⟩); have hbx : Below w3.heap.size w3 w4 := hW2 ▸ Below.setCells (Below.al (Below.refl _ _)) (Nat.le_refl _) _ _; have HS : Hid (Own w3.heap.size ([.int .i64 B.k, .slice B.M.qv B.M.nv B.M.cv, .slice B.M.qu B.M.nu B.M.cu, .slice B.M.qt B.M.nt B.M.ct, .int .i64 B.X.S, .slice B.X.q B.X.n B.X.c, .int .i64 (B.g 0), .int .i64 (B.g 1), .int .i64 (B.g 2), .int .i64 (B.g 3), .int .i64 (B.g 4), .int .i64 (B.l 0), .int .i64 (B.l 1), .int .i64 (B.l 2), .int .i64 (B.l 3), .int .i64 (B.l 4), .int .i64 (B.l 5), .int .i64 (B.l 6), .int .i64 (B.l 7), .int .i64 (B.l 8), .int .i64 (B.l 9), .int .i64 (B.l 10), .int .i64 (B.l 11), .int .i64 (B.l 12)]) w4) := Lib.hid (hW2 ▸ Own.store (Own.new _ [.int .i64 0, .slice none 0 0, .slice none 0 0, .slice none 0 0, .int .i64 0, .slice none 0 0, .int .i64 0, .int .i64 0, .int .i64 0, .int .i64 0, .int .i64 0, .int .i64 0, .int .i64 0, .int .i64 0, .int .i64 0, .int .i64 0, .int .i64 0, .int .i64 0, .int .i64 0, .int .i64 0, .int .i64 0, .int .i64 0, .int .i64 0, .int .i64 0] _) rfl); change wpList _ _ _ _ _ ((w3.alloc (.cells #[.int .i64 0, .slice none 0 0, .slice none 0 0, .slice none 0 0, .int .i64 0, .slice none 0 0, .int .i64 0, .int .i64 0, .int .i64 0, .int .i64 0, .int .i64 0, .int .i64 0, .int .i64 0, .int .i64 0, .int .i64 0, .int .i64 0, .int .i64 0, .int .i64 0, .int .i64 0, .int .i64 0, .int .i64 0, .int .i64 0, .int .i64 0, .int .i64 0] 37)).setCells w3.heap.size 0 ([.int .i64 B.k, .slice B.M.qv B.M.nv B.M.cv, .slice B.M.qu B.M.nu B.M.cu, .slice B.M.qt B.M.nt B.M.ct, .int .i64 B.X.S, .slice B.X.q B.X.n B.X.c, .int .i64 (B.g 0), .int .i64 (B.g 1), .int .i64 (B.g 2), .int .i64 (B.g 3), .int .i64 (B.g 4), .int .i64 (B.l 0), .int .i64 (B.l 1), .int .i64 (B.l 2), .int .i64 (B.l 3), .int .i64 (B.l 4), .int .i64 (B.l 5), .int .i64 (B.l 6), .int .i64 (B.l 7), .int .i64 (B.l 8), .int .i64 (B.l 9), .int .i64 (B.l 10), .int .i64 (B.l 11), .int .i64 (B.l 12)])); rw [← hW2]; clear hW2)
    obtain ⟨S, eQ⟩ : ∃ X, X = w3.heap.size := ⟨_, rfl⟩
    rw [← eQ] at HS ⊢
    clear eQ
    have HP4 := Lib.hid (HP3.out.later hbx); have A4 := Lib.hid (A3.out.later hbx); have B4 := Lib.hid (B3.out.later hbx); have G4 := Lib.hid (G3.out.later hbx); have Q4 := Lib.hid (Q3.out.later hbx); have HB4 := Lib.hid (Below.go HB3.out hbx)
    clear hbx HP3 A3 B3 G3 Q3 HB3
    go_wp2_with (first | (refine wpList_load_g (by rfl) 37 _ rfl P 0 rfl ([.int .i64 (fewA A).k, .slice (fewA A).M.qv (fewA A).M.nv (fewA A).M.cv, .slice (fewA A).M.qu (fewA A).M.nu (fewA A).M.cu, .slice (fewA A).M.qt (fewA A).M.nt (fewA A).M.ct, .int .i64 (fewA A).X.S, .slice (fewA A).X.q (fewA A).X.n (fewA A).X.c, .int .i64 ((fewA A).g 0), .int .i64 ((fewA A).g 1), .int .i64 ((fewA A).g 2), .int .i64 ((fewA A).g 3), .int .i64 ((fewA A).g 4), .int .i64 ((fewA A).l 0), .int .i64 ((fewA A).l 1), .int .i64 ((fewA A).l 2), .int .i64 ((fewA A).l 3), .int .i64 ((fewA A).l 4), .int .i64 ((fewA A).l 5), .int .i64 ((fewA A).l 6), .int .i64 ((fewA A).l 7), .int .i64 ((fewA A).l 8), .int .i64 ((fewA A).l 9), .int .i64 ((fewA A).l 10), .int .i64 ((fewA A).l 11), .int .i64 ((fewA A).l 12)]) _ HP4.out.cell Tryd.underlying37 rfl (by kernel_rfl) ?_) | (refine wpList_load_g (by rfl) 37 _ rfl S 0 rfl ([.int .i64 B.k, .slice B.M.qv B.M.nv B.M.cv, .slice B.M.qu B.M.nu B.M.cu, .slice B.M.qt B.M.nt B.M.ct, .int .i64 B.X.S, .slice B.X.q B.X.n B.X.c, .int .i64 (B.g 0), .int .i64 (B.g 1), .int .i64 (B.g 2), .int .i64 (B.g 3), .int .i64 (B.g 4), .int .i64 (B.l 0), .int .i64 (B.l 1), .int .i64 (B.l 2), .int .i64 (B.l 3), .int .i64 (B.l 4), .int .i64 (B.l 5), .int .i64 (B.l 6), .int .i64 (B.l 7), .int .i64 (B.l 8), .int .i64 (B.l 9), .int .i64 (B.l 10), .int .i64 (B.l 11), .int .i64 (B.l 12)]) _ HS.out.cell Tryd.underlying37 rfl (by kernel_rfl) ?_))
    go_at_call 22
    refine (Same_any (fewA A) B _ (fewA_at A4.out) B4.out (fewA_few A)).mono ?_
    rintro e w5 ⟨rfl, hb⟩
    rw [SM.out]
    have HP5 := Lib.hid (HP4.out.later hb); have G5 := Lib.hid (G4.out.later hb); have Q5 := Lib.hid (Q4.out.later hb); have HB5 := Lib.hid (Below.go HB4.out hb)
    clear hb HP4 A4 B4 HS G4 Q4 HB4 SM
    have oP := HP5.out
    have P0 := oP.at 0 _ rfl
    have Pl := oP.lt
    clear oP
    go_wp2_with (fail)
    clear P0 Pl
    go_at_call 23
    refine (Cap_any _ _ G5.out).mono ?_
    rintro e w6 ⟨rfl, hw⟩
    subst hw
    have d8 : decide (capF (fewA A).k < (len : Int)) = false := decide_eq_false (by have := LZ.out.2.2; omega)
    have d9 : ((len : Int) == 0) = false := by have := LZ.out.1; simp; omega
    clear HP5
    go_wp2_with (fail)
    go_at_call 19
    refine (D1.out _ Q5.out G5.out).mono ?_
    rintro e v1 ⟨⟨B, rfl, hA, fB, yB, nB⟩, hb⟩
    have B1 := Lib.hid hA; have FB := Lib.hid fB; have YB := Lib.hid yB; have NB := Lib.hid nB
    have R1 := Lib.hid (Q5.out.later hb); have H1 := Lib.hid (G5.out.later hb); have J1 := Lib.hid (Below.go HB5.out hb)
    clear hA fB yB nB hb Q5 G5 HB5 D1
    go_upto_region 8 with (refine wpList_store_mid rfl 37 _ _ rfl _ 0 #[.int .i64 B.k, .slice B.M.qv B.M.nv B.M.cv, .slice B.M.qu B.M.nu B.M.cu, .slice B.M.qt B.M.nt B.M.ct, .int .i64 B.X.S, .slice B.X.q B.X.n B.X.c, .int .i64 (B.g 0), .int .i64 (B.g 1), .int .i64 (B.g 2), .int .i64 (B.g 3), .int .i64 (B.g 4), .int .i64 (B.l 0), .int .i64 (B.l 1), .int .i64 (B.l 2), .int .i64 (B.l 3), .int .i64 (B.l 4), .int .i64 (B.l 5), .int .i64 (B.l 6), .int .i64 (B.l 7), .int .i64 (B.l 8), .int .i64 (B.l 9), .int .i64 (B.l 10), .int .i64 (B.l 11), .int .i64 (B.l 12)] rfl rfl (there_newn (cs := [.int .i64 0, .slice none 0 0, .slice none 0 0, .slice none 0 0, .int .i64 0, .slice none 0 0, .int .i64 0, .int .i64 0, .int .i64 0, .int .i64 0, .int .i64 0, .int .i64 0, .int .i64 0, .int .i64 0, .int .i64 0, .int .i64 0, .int .i64 0, .int .i64 0, .int .i64 0, .int .i64 0, .int .i64 0, .int .i64 0, .int .i64 0, .int .i64 0]) (by simp)) (by kernel_rfl) (by simp [Value.oneCell']) ?_; (obtain ⟨v2, hW2⟩ : ∃ W, W = (v1.alloc (.cells #[.int .i64 0, .slice none 0 0, .slice none 0 0, .slice none 0 0, .int .i64 0, .slice none 0 0, .int .i64 0, .int .i64 0, .int .i64 0, .int .i64 0, .int .i64 0, .int .i64 0, .int .i64 0, .int .i64 0, .int .i64 0, .int .i64 0, .int .i64 0, .int .i64 0, .int .i64 0, .int .i64 0, .int .i64 0, .int .i64 0, .int .i64 0, .int .i64 0] 37)).setCells v1.heap.size 0 ([.int .i64 B.k, .slice B.M.qv B.M.nv B.M.cv, .slice B.M.qu B.M.nu B.M.cu, .slice B.M.qt B.M.nt B.M.ct, .int .i64 B.X.S, .slice B.X.q B.X.n B.X.c, .int .i64 (B.g 0), .int .i64 (B.g 1), .int .i64 (B.g 2), .int .i64 (B.g 3), .int .i64 (B.g 4), .int .i64 (B.l 0), .int .i64 (B.l 1), .int .i64 (B.l 2), .int .i64 (B.l 3), .int .i64 (B.l 4), .int .i64 (B.l 5), .int .i64 (B.l 6), .int .i64 (B.l 7), .int .i64 (B.l 8), .int .i64 (B.l 9), .int .i64 (B.l 10), .int .i64 (B.l 11), .int .i64 (B.l 12)]) := ⟨_, rfl⟩); have hbx : Below v1.heap.size v1 v2 := hW2 ▸ Below.setCells (Below.al (Below.refl _ _)) (Nat.le_refl _) _ _; have HX : Hid (Own v1.heap.size ([.int .i64 B.k, .slice B.M.qv B.M.nv B.M.cv, .slice B.M.qu B.M.nu B.M.cu, .slice B.M.qt B.M.nt B.M.ct, .int .i64 B.X.S, .slice B.X.q B.X.n B.X.c, .int .i64 (B.g 0), .int .i64 (B.g 1), .int .i64 (B.g 2), .int .i64 (B.g 3), .int .i64 (B.g 4), .int .i64 (B.l 0), .int .i64 (B.l 1), .int .i64 (B.l 2), .int .i64 (B.l 3), .int .i64 (B.l 4), .int .i64 (B.l 5), .int .i64 (B.l 6), .int .i64 (B.l 7), .int .i64 (B.l 8), .int .i64 (B.l 9), .int .i64 (B.l 10), .int .i64 (B.l 11), .int .i64 (B.l 12)]) v2) := Lib.hid (hW2 ▸ Own.store (Own.new _ [.int .i64 0, .slice none 0 0, .slice none 0 0, .slice none 0 0, .int .i64 0, .slice none 0 0, .int .i64 0, .int .i64 0, .int .i64 0, .int .i64 0, .int .i64 0, .int .i64 0, .int .i64 0, .int .i64 0, .int .i64 0, .int .i64 0, .int .i64 0, .int .i64 0, .int .i64 0, .int .i64 0, .int .i64 0, .int .i64 0, .int .i64 0, .int .i64 0] _) rfl); change wpList _ _ _ _ _ ((v1.alloc (.cells #[.int .i64 0, .slice none 0 0, .slice none 0 0, .slice none 0 0, .int .i64 0, .slice none 0 0, .int .i64 0, .int .i64 0, .int .i64 0, .int .i64 0, .int .i64 0, .int .i64 0, .int .i64 0, .int .i64 0, .int .i64 0, .int .i64 0, .int .i64 0, .int .i64 0, .int .i64 0, .int .i64 0, .int .i64 0, .int .i64 0, .int .i64 0, .int .i64 0] 37)).setCells v1.heap.size 0 ([.int .i64 B.k, .slice B.M.qv B.M.nv B.M.cv, .slice B.M.qu B.M.nu B.M.cu, .slice B.M.qt B.M.nt B.M.ct, .int .i64 B.X.S, .slice B.X.q B.X.n B.X.c, .int .i64 (B.g 0), .int .i64 (B.g 1), .int .i64 (B.g 2), .int .i64 (B.g 3), .int .i64 (B.g 4), .int .i64 (B.l 0), .int .i64 (B.l 1), .int .i64 (B.l 2), .int .i64 (B.l 3), .int .i64 (B.l 4), .int .i64 (B.l 5), .int .i64 (B.l 6), .int .i64 (B.l 7), .int .i64 (B.l 8), .int .i64 (B.l 9), .int .i64 (B.l 10), .int .i64 (B.l 11), .int .i64 (B.l 12)])); rw [← hW2]; clear hW2)
    obtain ⟨X, eQ⟩ : ∃ X, X = v1.heap.size := ⟨_, rfl⟩
    rw [← eQ] at HX ⊢
    clear eQ
    have B2 := Lib.hid (B1.out.later hbx); have R2 := Lib.hid (R1.out.later hbx); have H2 := Lib.hid (H1.out.later hbx); have J2 := Lib.hid (Below.go J1.out hbx)
    clear hbx B1 R1 H1 J1
    by_cases hy : y = 0
    · subst hy
      have EB := Lib.hid (YB.out (by first | rfl | trivial))
      have CB := Lib.hid ((chkA_congr EB.out).trans (DB.out (by first | rfl | trivial)))
      have DD := DN.out (by first | rfl | trivial)
      have LB : Hid (lenA B = m) := Lib.hid ((lenA_congr EB.out).trans DD.1)
      have FBm : Hid (∀ j, j < m → encA B j = F j) := Lib.hid (fun j hj => (encA_congr EB.out CB.out j (by rw [LB.out]; exact hj)).trans (DD.2 j hj))
      have dk : (B.k == k) = true := by rw [EB.out.k, decA_k]; simp
      have NC := Lib.hid (fun w h h2 => AEncode_any B FB.out w h h2)
      rw [CB.out, LB.out, show encL 0 m = m from rfl] at NC
      clear DD DN DB YB NB
      go_wp2_with (refine wpList_load_mid rfl 37 _ rfl X 0 rfl ([.int .i64 B.k, .slice B.M.qv B.M.nv B.M.cv, .slice B.M.qu B.M.nu B.M.cu, .slice B.M.qt B.M.nt B.M.ct, .int .i64 B.X.S, .slice B.X.q B.X.n B.X.c, .int .i64 (B.g 0), .int .i64 (B.g 1), .int .i64 (B.g 2), .int .i64 (B.g 3), .int .i64 (B.g 4), .int .i64 (B.l 0), .int .i64 (B.l 1), .int .i64 (B.l 2), .int .i64 (B.l 3), .int .i64 (B.l 4), .int .i64 (B.l 5), .int .i64 (B.l 6), .int .i64 (B.l 7), .int .i64 (B.l 8), .int .i64 (B.l 9), .int .i64 (B.l 10), .int .i64 (B.l 11), .int .i64 (B.l 12)]) _ HX.out.cell Tryd.underlying37 rfl (by kernel_rfl) ?_)
      go_at_call 16
      refine (NC.out _ B2.out H2.out).mono ?_
      rintro e v3 ⟨⟨v, rfl, hr⟩, hb⟩
      have R3 := Lib.hid (R2.out.later hb); have H3 := Lib.hid (H2.out.later hb); have J3 := Lib.hid (Below.go J2.out hb); have HX3 := Lib.hid (HX.out.later hb)
      have RA : Hid (RowR v3 (.slice q m c) m F) := Lib.hid ⟨q, c, rfl, HMC.out.1, HMC.out.2, R3.out⟩
      have RB_ : Hid (RowR v3 v m F) := Lib.hid (RowR.congr hr FBm.out)
      clear hb hr B2 R2 H2 J2 HX NC R3 FBm LB
      go_wp2_with (fail)
      go_at_call 18
      refine (Equal_R _ _ m F _ RA.out RB_.out).mono ?_
      rintro e v4 ⟨rfl, hb⟩
      have H4 := Lib.hid (H3.out.later hb); have J4 := Lib.hid (Below.go J3.out hb); have HX4 := Lib.hid (HX3.out.later hb)
      clear hb RA RB_ H3 J3 HX3
      have oX := HX4.out
      have X0 := oX.at 0 _ rfl
      have Xl := oX.lt
      clear oX
      go_wp2_with (fail)
      clear X0 Xl
      go_at_call 15
      refine (works15_any _ H4.out).mono ?_
      rintro e v5 ⟨rfl, hb⟩
      have J5 := Lib.hid (Below.go J4.out hb)
      clear hb H4 J4 HX4
      go_wp2_with (fail)
      go_ret
      exact ⟨rfl, J5.out⟩
    · have hd : (y != 0) = true := by simpa using hy
      have SM := Lib.hid (sameA_iff.2 (NB.out hy))
      clear DN DB YB NB
      go_wp2_with (refine wpList_load_mid rfl 37 _ rfl X 0 rfl ([.int .i64 B.k, .slice B.M.qv B.M.nv B.M.cv, .slice B.M.qu B.M.nu B.M.cu, .slice B.M.qt B.M.nt B.M.ct, .int .i64 B.X.S, .slice B.X.q B.X.n B.X.c, .int .i64 (B.g 0), .int .i64 (B.g 1), .int .i64 (B.g 2), .int .i64 (B.g 3), .int .i64 (B.g 4), .int .i64 (B.l 0), .int .i64 (B.l 1), .int .i64 (B.l 2), .int .i64 (B.l 3), .int .i64 (B.l 4), .int .i64 (B.l 5), .int .i64 (B.l 6), .int .i64 (B.l 7), .int .i64 (B.l 8), .int .i64 (B.l 9), .int .i64 (B.l 10), .int .i64 (B.l 11), .int .i64 (B.l 12)]) _ HX.out.cell Tryd.underlying37 rfl (by kernel_rfl) ?_)
      go_at_call 22
      refine (Same_any B (kinA 0) _ B2.out (kinA_at _ _) FB.out).mono ?_
      rintro e v3 ⟨rfl, hb⟩
      rw [SM.out]
      have H3 := Lib.hid (H2.out.later hb); have J3 := Lib.hid (Below.go J2.out hb)
      clear hb B2 R2 H2 J2 HX SM
      go_wp2_with (fail)
      go_at_call 15
      refine (works15_any _ H3.out).mono ?_
      rintro e v5 ⟨rfl, hb⟩
      have J5 := Lib.hid (Below.go J3.out hb)
      clear hb H3 J3
      go_wp2_with (fail)
      go_ret
      exact ⟨rfl, J5.out⟩
  · have hd : (z == 0) = false := by simpa using hz
    clear DC DZ DE LE HP2 A2 BY2 CC ez
    go_wp2_with (fail)
    go_at_call 19
    refine (D1.out _ Q2.out G2.out).mono ?_
    rintro e v1 ⟨⟨B, rfl, hA, fB, yB, nB⟩, hb⟩
    have B1 := Lib.hid hA; have FB := Lib.hid fB; have YB := Lib.hid yB; have NB := Lib.hid nB
    have R1 := Lib.hid (Q2.out.later hb); have H1 := Lib.hid (G2.out.later hb); have J1 := Lib.hid (Below.go HB2.out hb)
    clear hA fB yB nB hb Q2 G2 HB2 D1
    go_upto_region 8 with (refine wpList_store_mid rfl 37 _ _ rfl _ 0 #[.int .i64 B.k, .slice B.M.qv B.M.nv B.M.cv, .slice B.M.qu B.M.nu B.M.cu, .slice B.M.qt B.M.nt B.M.ct, .int .i64 B.X.S, .slice B.X.q B.X.n B.X.c, .int .i64 (B.g 0), .int .i64 (B.g 1), .int .i64 (B.g 2), .int .i64 (B.g 3), .int .i64 (B.g 4), .int .i64 (B.l 0), .int .i64 (B.l 1), .int .i64 (B.l 2), .int .i64 (B.l 3), .int .i64 (B.l 4), .int .i64 (B.l 5), .int .i64 (B.l 6), .int .i64 (B.l 7), .int .i64 (B.l 8), .int .i64 (B.l 9), .int .i64 (B.l 10), .int .i64 (B.l 11), .int .i64 (B.l 12)] rfl rfl (there_newn (cs := [.int .i64 0, .slice none 0 0, .slice none 0 0, .slice none 0 0, .int .i64 0, .slice none 0 0, .int .i64 0, .int .i64 0, .int .i64 0, .int .i64 0, .int .i64 0, .int .i64 0, .int .i64 0, .int .i64 0, .int .i64 0, .int .i64 0, .int .i64 0, .int .i64 0, .int .i64 0, .int .i64 0, .int .i64 0, .int .i64 0, .int .i64 0, .int .i64 0]) (by simp)) (by kernel_rfl) (by simp [Value.oneCell']) ?_; (obtain ⟨v2, hW2⟩ : ∃ W, W = (v1.alloc (.cells #[.int .i64 0, .slice none 0 0, .slice none 0 0, .slice none 0 0, .int .i64 0, .slice none 0 0, .int .i64 0, .int .i64 0, .int .i64 0, .int .i64 0, .int .i64 0, .int .i64 0, .int .i64 0, .int .i64 0, .int .i64 0, .int .i64 0, .int .i64 0, .int .i64 0, .int .i64 0, .int .i64 0, .int .i64 0, .int .i64 0, .int .i64 0, .int .i64 0] 37)).setCells v1.heap.size 0 ([.int .i64 B.k, .slice B.M.qv B.M.nv B.M.cv, .slice B.M.qu B.M.nu B.M.cu, .slice B.M.qt B.M.nt B.M.ct, .int .i64 B.X.S, .slice B.X.q B.X.n B.X.c, .int .i64 (B.g 0), .int .i64 (B.g 1), .int .i64 (B.g 2), .int .i64 (B.g 3), .int .i64 (B.g 4), .int .i64 (B.l 0), .int .i64 (B.l 1), .int .i64 (B.l 2), .int .i64 (B.l 3), .int .i64 (B.l 4), .int .i64 (B.l 5), .int .i64 (B.l 6), .int .i64 (B.l 7), .int .i64 (B.l 8), .int .i64 (B.l 9), .int .i64 (B.l 10), .int .i64 (B.l 11), .int .i64 (B.l 12)]) := ⟨_, rfl⟩); have hbx : Below v1.heap.size v1 v2 := hW2 ▸ Below.setCells (Below.al (Below.refl _ _)) (Nat.le_refl _) _ _; have HX : Hid (Own v1.heap.size ([.int .i64 B.k, .slice B.M.qv B.M.nv B.M.cv, .slice B.M.qu B.M.nu B.M.cu, .slice B.M.qt B.M.nt B.M.ct, .int .i64 B.X.S, .slice B.X.q B.X.n B.X.c, .int .i64 (B.g 0), .int .i64 (B.g 1), .int .i64 (B.g 2), .int .i64 (B.g 3), .int .i64 (B.g 4), .int .i64 (B.l 0), .int .i64 (B.l 1), .int .i64 (B.l 2), .int .i64 (B.l 3), .int .i64 (B.l 4), .int .i64 (B.l 5), .int .i64 (B.l 6), .int .i64 (B.l 7), .int .i64 (B.l 8), .int .i64 (B.l 9), .int .i64 (B.l 10), .int .i64 (B.l 11), .int .i64 (B.l 12)]) v2) := Lib.hid (hW2 ▸ Own.store (Own.new _ [.int .i64 0, .slice none 0 0, .slice none 0 0, .slice none 0 0, .int .i64 0, .slice none 0 0, .int .i64 0, .int .i64 0, .int .i64 0, .int .i64 0, .int .i64 0, .int .i64 0, .int .i64 0, .int .i64 0, .int .i64 0, .int .i64 0, .int .i64 0, .int .i64 0, .int .i64 0, .int .i64 0, .int .i64 0, .int .i64 0, .int .i64 0, .int .i64 0] _) rfl); change wpList _ _ _ _ _ ((v1.alloc (.cells #[.int .i64 0, .slice none 0 0, .slice none 0 0, .slice none 0 0, .int .i64 0, .slice none 0 0, .int .i64 0, .int .i64 0, .int .i64 0, .int .i64 0, .int .i64 0, .int .i64 0, .int .i64 0, .int .i64 0, .int .i64 0, .int .i64 0, .int .i64 0, .int .i64 0, .int .i64 0, .int .i64 0, .int .i64 0, .int .i64 0, .int .i64 0, .int .i64 0] 37)).setCells v1.heap.size 0 ([.int .i64 B.k, .slice B.M.qv B.M.nv B.M.cv, .slice B.M.qu B.M.nu B.M.cu, .slice B.M.qt B.M.nt B.M.ct, .int .i64 B.X.S, .slice B.X.q B.X.n B.X.c, .int .i64 (B.g 0), .int .i64 (B.g 1), .int .i64 (B.g 2), .int .i64 (B.g 3), .int .i64 (B.g 4), .int .i64 (B.l 0), .int .i64 (B.l 1), .int .i64 (B.l 2), .int .i64 (B.l 3), .int .i64 (B.l 4), .int .i64 (B.l 5), .int .i64 (B.l 6), .int .i64 (B.l 7), .int .i64 (B.l 8), .int .i64 (B.l 9), .int .i64 (B.l 10), .int .i64 (B.l 11), .int .i64 (B.l 12)])); rw [← hW2]; clear hW2)
    obtain ⟨X, eQ⟩ : ∃ X, X = v1.heap.size := ⟨_, rfl⟩
    rw [← eQ] at HX ⊢
    clear eQ
    have B2 := Lib.hid (B1.out.later hbx); have R2 := Lib.hid (R1.out.later hbx); have H2 := Lib.hid (H1.out.later hbx); have J2 := Lib.hid (Below.go J1.out hbx)
    clear hbx B1 R1 H1 J1
    by_cases hy : y = 0
    · subst hy
      have EB := Lib.hid (YB.out (by first | rfl | trivial))
      have CB := Lib.hid ((chkA_congr EB.out).trans (DB.out (by first | rfl | trivial)))
      have DD := DN.out (by first | rfl | trivial)
      have LB : Hid (lenA B = m) := Lib.hid ((lenA_congr EB.out).trans DD.1)
      have FBm : Hid (∀ j, j < m → encA B j = F j) := Lib.hid (fun j hj => (encA_congr EB.out CB.out j (by rw [LB.out]; exact hj)).trans (DD.2 j hj))
      have dk : (B.k == k) = true := by rw [EB.out.k, decA_k]; simp
      have NC := Lib.hid (fun w h h2 => AEncode_any B FB.out w h h2)
      rw [CB.out, LB.out, show encL 0 m = m from rfl] at NC
      clear DD DN DB YB NB
      go_wp2_with (refine wpList_load_mid rfl 37 _ rfl X 0 rfl ([.int .i64 B.k, .slice B.M.qv B.M.nv B.M.cv, .slice B.M.qu B.M.nu B.M.cu, .slice B.M.qt B.M.nt B.M.ct, .int .i64 B.X.S, .slice B.X.q B.X.n B.X.c, .int .i64 (B.g 0), .int .i64 (B.g 1), .int .i64 (B.g 2), .int .i64 (B.g 3), .int .i64 (B.g 4), .int .i64 (B.l 0), .int .i64 (B.l 1), .int .i64 (B.l 2), .int .i64 (B.l 3), .int .i64 (B.l 4), .int .i64 (B.l 5), .int .i64 (B.l 6), .int .i64 (B.l 7), .int .i64 (B.l 8), .int .i64 (B.l 9), .int .i64 (B.l 10), .int .i64 (B.l 11), .int .i64 (B.l 12)]) _ HX.out.cell Tryd.underlying37 rfl (by kernel_rfl) ?_)
      go_at_call 16
      refine (NC.out _ B2.out H2.out).mono ?_
      rintro e v3 ⟨⟨v, rfl, hr⟩, hb⟩
      have R3 := Lib.hid (R2.out.later hb); have H3 := Lib.hid (H2.out.later hb); have J3 := Lib.hid (Below.go J2.out hb); have HX3 := Lib.hid (HX.out.later hb)
      have RA : Hid (RowR v3 (.slice q m c) m F) := Lib.hid ⟨q, c, rfl, HMC.out.1, HMC.out.2, R3.out⟩
      have RB_ : Hid (RowR v3 v m F) := Lib.hid (RowR.congr hr FBm.out)
      clear hb hr B2 R2 H2 J2 HX NC R3 FBm LB
      go_wp2_with (fail)
      go_at_call 18
      refine (Equal_R _ _ m F _ RA.out RB_.out).mono ?_
      rintro e v4 ⟨rfl, hb⟩
      have H4 := Lib.hid (H3.out.later hb); have J4 := Lib.hid (Below.go J3.out hb); have HX4 := Lib.hid (HX3.out.later hb)
      clear hb RA RB_ H3 J3 HX3
      have oX := HX4.out
      have X0 := oX.at 0 _ rfl
      have Xl := oX.lt
      clear oX
      go_wp2_with (fail)
      clear X0 Xl
      go_at_call 15
      refine (works15_any _ H4.out).mono ?_
      rintro e v5 ⟨rfl, hb⟩
      have J5 := Lib.hid (Below.go J4.out hb)
      clear hb H4 J4 HX4
      go_wp2_with (fail)
      go_ret
      exact ⟨rfl, J5.out⟩
    · have hd : (y != 0) = true := by simpa using hy
      have SM := Lib.hid (sameA_iff.2 (NB.out hy))
      clear DN DB YB NB
      go_wp2_with (refine wpList_load_mid rfl 37 _ rfl X 0 rfl ([.int .i64 B.k, .slice B.M.qv B.M.nv B.M.cv, .slice B.M.qu B.M.nu B.M.cu, .slice B.M.qt B.M.nt B.M.ct, .int .i64 B.X.S, .slice B.X.q B.X.n B.X.c, .int .i64 (B.g 0), .int .i64 (B.g 1), .int .i64 (B.g 2), .int .i64 (B.g 3), .int .i64 (B.g 4), .int .i64 (B.l 0), .int .i64 (B.l 1), .int .i64 (B.l 2), .int .i64 (B.l 3), .int .i64 (B.l 4), .int .i64 (B.l 5), .int .i64 (B.l 6), .int .i64 (B.l 7), .int .i64 (B.l 8), .int .i64 (B.l 9), .int .i64 (B.l 10), .int .i64 (B.l 11), .int .i64 (B.l 12)]) _ HX.out.cell Tryd.underlying37 rfl (by kernel_rfl) ?_)
      go_at_call 22
      refine (Same_any B (kinA 0) _ B2.out (kinA_at _ _) FB.out).mono ?_
      rintro e v3 ⟨rfl, hb⟩
      rw [SM.out]
      have H3 := Lib.hid (H2.out.later hb); have J3 := Lib.hid (Below.go J2.out hb)
      clear hb B2 R2 H2 J2 HX SM
      go_wp2_with (fail)
      go_at_call 15
      refine (works15_any _ H3.out).mono ?_
      rintro e v5 ⟨rfl, hb⟩
      have J5 := Lib.hid (Below.go J3.out hb)
      clear hb H3 J3
      go_wp2_with (fail)
      go_ret
      exact ⟨rfl, J5.out⟩
theorem ABack_law (A : Ast) (k : Int) (F : Nat → Int) (q : Option Addr) (n c : Nat) (hF : ∀ j, j < n → inB (F j)) (hnc : n ≤ c) (hcx : c ≤ 9223372036854775807) (w : World) (hA : AstAt A w) (hg : Has 0 0 CapL w) (hq : Byt w q n F) :
    Calls Tryd.prog 7 #[(.agg #[.int .i64 A.k, .slice A.M.qv A.M.nv A.M.cv, .slice A.M.qu A.M.nu A.M.cu, .slice A.M.qt A.M.nt A.M.ct, .int .i64 A.X.S, .slice A.X.q A.X.n A.X.c, .int .i64 (A.g 0), .int .i64 (A.g 1), .int .i64 (A.g 2), .int .i64 (A.g 3), .int .i64 (A.g 4), .int .i64 (A.l 0), .int .i64 (A.l 1), .int .i64 (A.l 2), .int .i64 (A.l 3), .int .i64 (A.l 4), .int .i64 (A.l 5), .int .i64 (A.l 6), .int .i64 (A.l 7), .int .i64 (A.l 8), .int .i64 (A.l 9), .int .i64 (A.l 10), .int .i64 (A.l 11), .int .i64 (A.l 12)]), .int .i64 k, .slice q n c] w fun e w' => e = .returned (.bool true) ∧ Below w.heap.size w w' :=
  Back_core A k F q n c (min n 900) (by omega) (fun j hj => hF j (by omega)) hnc hcx w hA hg (tbyt_take_ hq (Nat.min_le_left _ _))
end Go.Proofs.YtokfhhngnpbdkaaDoor
